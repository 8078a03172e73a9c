"""Whether a value is a finest paper; the paper is confirmed without searching for another one."""

from mumhouse.errors import InvalidPaper
from mumhouse.groupings import divisions_of, is_division_of
from mumhouse.halls import lets_grouping
from mumhouse.kinds import are_tuples, is_number, is_pair
from mumhouse.mumchecker import is_mum_paper


def lets_finest(hall, ask, grouping, thing):
    """Return the word of a finest paper of the grouping, or raise InvalidPaper."""
    lets_grouping(hall, ask, grouping)
    if not _has_shape(thing):
        raise InvalidPaper("shape", -1)
    word = thing[0]
    if word == "finest":
        _check_finest(hall, ask, grouping, thing[1:])
        return word
    n = thing[1]
    if not is_number(n) or n >= len(grouping):
        raise InvalidPaper("number", -1)
    if word == "finer":
        _check_finer(hall, ask, grouping[n], thing[2:])
    elif not is_mum_paper(hall(ask, grouping[n]), thing[2], "tells"):
        raise InvalidPaper("group", -1)
    return word


def _check_finest(hall, ask, grouping, stated):
    papers, rows = stated
    if len(papers) != len(grouping) or len(rows) != len(grouping):
        raise InvalidPaper("many", -1)
    for n, group in enumerate(grouping):
        if not is_mum_paper(hall(ask, group), papers[n], "mum"):
            raise InvalidPaper("group", n)
        divisions = divisions_of(group)
        if len(rows[n]) != len(divisions):
            raise InvalidPaper("divisions", n)
        for d, (division, (side, paper)) in enumerate(zip(divisions, rows[n])):
            if not is_number(side) or side > 1 or not is_mum_paper(hall(ask, division[side]), paper, "tells"):
                raise InvalidPaper("division", (n, d))


def _check_finer(hall, ask, group, stated):
    division, papers = stated
    if not is_division_of(division, group):
        raise InvalidPaper("division", -1)
    for side, half in enumerate(division):
        if not is_mum_paper(hall(ask, half), papers[side], "mum"):
            raise InvalidPaper("half", side)


def _has_shape(thing):
    if not isinstance(thing, tuple) or len(thing) not in (3, 4):
        return False
    if len(thing) == 4:
        return thing[0] == "finer" and is_pair(thing[3])
    if thing[0] != "finest":
        return thing[0] == "tells"
    _, papers, rows = thing
    return isinstance(papers, tuple) and are_tuples(rows) and all([is_pair(pair) for row in rows for pair in row])
