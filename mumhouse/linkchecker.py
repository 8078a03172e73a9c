"""Whether a value is a link paper; the paper is confirmed without searching for another one."""

from mumhouse.errors import InvalidPaper
from mumhouse.groupings import is_grouping_of
from mumhouse.kinds import is_among
from mumhouse.knowing import values_in
from mumhouse.views import looks, partition_by, values_between


def lets_link(house, worlds, asked, ask, one, other, thing):
    """Return True for a paper "linked" and False for a paper "apart", or raise InvalidPaper."""
    values = values_between(house, worlds, asked, ask, one, other)
    if not _has_shape(thing):
        raise InvalidPaper("shape", -1)
    if thing[0] == "linked":
        _check_linked(worlds, thing[1], looks(house, worlds, asked), values, (one, other))
        return True
    classes = [values_in(house, some, ask) for some in partition_by(house, worlds, asked)]
    _check_apart(thing[1], classes, values, (one, other))
    return False


def _check_linked(worlds, row, seen, values, ends):
    steps = []
    for k, world in enumerate(row):
        if not is_among(world, worlds):
            raise InvalidPaper("world", k)
        n = worlds.index(world)
        if k > 0 and seen[n] != seen[steps[-1]] and values[n] != values[steps[-1]]:
            raise InvalidPaper("step", k)
        steps.append(n)
    if values[steps[0]] != ends[0]:
        raise InvalidPaper("first", -1)
    if values[steps[-1]] != ends[1]:
        raise InvalidPaper("last", -1)


def _check_apart(grouping, classes, values, ends):
    """classes has the values of the ask in each class."""
    if not is_grouping_of(grouping, tuple(sorted(set(values)))):
        raise InvalidPaper("grouping", -1)
    if any([ends[0] in group and ends[1] in group for group in grouping]):
        raise InvalidPaper("together", -1)
    places = {value: k for k, group in enumerate(grouping) for value in group}
    for n, some in enumerate(classes):
        if len(set([places[value] for value in some])) > 1:
            raise InvalidPaper("class", n)


def _has_shape(thing):
    if not isinstance(thing, tuple) or len(thing) != 2 or not isinstance(thing[1], tuple):
        return False
    return thing[0] == "apart" or thing[0] == "linked" and len(thing[1]) > 0
