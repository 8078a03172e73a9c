"""Whether a value is a why paper; the paper is confirmed without searching for another one."""

from mumhouse.errors import InvalidPaper
from mumhouse.groupings import not_alone
from mumhouse.halls import lets_grouping
from mumhouse.kinds import are_tuples, is_number, same
from mumhouse.mumchecker import is_mum_paper


def lets_why(hall, ask, grouping, thing):
    """Return the number of rows of a why paper of the grouping, or raise InvalidPaper."""
    lets_grouping(hall, ask, grouping)
    if not are_tuples(thing) or not all([len(row) == 5 for row in thing]):
        raise InvalidPaper("shape", -1)
    due = not_alone(grouping)
    for n, (value, others) in enumerate(due):
        if n >= len(thing) or not same(thing[n][0], value):
            raise InvalidPaper("value", n)
        side = thing[n][1]
        if not is_number(side) or side > 1:
            raise InvalidPaper("side", n)
        group = (value,) if side == 0 else others
        if not is_mum_paper(hall(ask, group), ("tells", *thing[n][2:]), "tells"):
            raise InvalidPaper("tells", n)
    if len(thing) > len(due):
        raise InvalidPaper("many", -1)
    return len(thing)
