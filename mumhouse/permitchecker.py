"""Whether a value is a permit paper; the paper is confirmed without searching for another one."""

from mumhouse.errors import InvalidPaper
from mumhouse.groupings import divided, divisions_of, is_division_of
from mumhouse.kinds import are_tuples, is_number
from mumhouse.mumchecker import is_mum_paper


def lets_permit(hall, asker, ask, grouping, thing):
    """Return the word of a permit paper of the grouping for the asker, or raise InvalidPaper."""
    given = hall.with_permit(asker, ask, grouping)
    if not _has_shape(thing):
        raise InvalidPaper("shape", -1)
    word = thing[0]
    if word == "finer":
        _check_division(grouping, thing)
        given = hall.with_permit(asker, ask, divided(grouping, thing[1], thing[2]))
    paper = thing[3] if word == "finer" else thing[1]
    if not is_mum_paper(given, paper, "tells" if word == "tells" else "mum"):
        raise InvalidPaper("paper", -1)
    if word == "finest":
        _check_rows(hall, (asker, ask, grouping), thing[2])
    return word


def _check_division(grouping, thing):
    n, division = thing[1:3]
    if n >= len(grouping):
        raise InvalidPaper("number", -1)
    if not is_division_of(division, grouping[n]):
        raise InvalidPaper("division", -1)


def _check_rows(hall, permit, rows):
    asker, ask, grouping = permit
    if len(rows) != len(grouping):
        raise InvalidPaper("many", -1)
    for n, group in enumerate(grouping):
        divisions = divisions_of(group)
        if len(rows[n]) != len(divisions):
            raise InvalidPaper("divisions", n)
        for d, division in enumerate(divisions):
            finer = hall.with_permit(asker, ask, divided(grouping, n, division))
            if not is_mum_paper(finer, rows[n][d], "tells"):
                raise InvalidPaper("division", (n, d))


def _has_shape(thing):
    if not isinstance(thing, tuple) or len(thing) not in (2, 3, 4):
        return False
    if len(thing) == 4:
        return thing[0] == "finer" and is_number(thing[1])
    if len(thing) == 3:
        return thing[0] == "finest" and are_tuples(thing[2])
    return thing[0] == "tells"
