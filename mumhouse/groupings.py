"""Groupings: integers divided into groups, how such divisions compare, and all of them."""

from mumhouse.errors import InvalidGrouping
from mumhouse.kinds import is_among, is_integer, is_number, is_rising


def is_group(thing):
    """Return whether any value is a nonempty set of integers."""
    if not isinstance(thing, tuple) or len(thing) == 0:
        return False
    return all([is_integer(value) for value in thing]) and is_rising(thing)


def is_groups(thing):
    """Return whether any value is an ascending tuple of nonempty sets of integers, no integer in two of them."""
    if not isinstance(thing, tuple) or not all([is_group(group) for group in thing]):
        return False
    values = [value for group in thing for value in group]
    return is_rising(thing) and len(set(values)) == len(values)


def is_grouping_of(thing, values):
    """Return whether any value is a grouping of exactly these values, which are a set."""
    return is_groups(thing) and tuple(sorted([value for group in thing for value in group])) == values


def is_division_of(thing, group):
    """Return whether any value is a division of a group: a pair of its parts, the least value in the first one."""
    return is_grouping_of(thing, group) and len(thing) == 2


def divisions_of(group):
    """Return the list of all divisions of a group, ascending; it is empty for a group of one value."""
    return [_division_by(group, half) for half in _halves(group) if len(half) < len(group)]


def divided(groups, k, division):
    """Return the groups with group k replaced by both parts of a division of it."""
    return tuple(sorted([*groups[:k], *division, *groups[k + 1:]]))


def not_alone(groups):
    """Return the ascending list of (value, others) for each value that does not stand alone in its group."""
    rows = [(value, group) for group in groups if len(group) > 1 for value in group]
    return [(value, tuple([other for other in group if other != value])) for value, group in sorted(rows)]


def all_groupings(values):
    """Yield all tuples of groups that are groupings of these values, ascending."""
    # Each stage has the values that were left there, and which of them are in one group with the least one.
    stages = []
    left = values
    while left is not None:
        while left:
            stages.append((left, ()))
            left = left[1:]
        yield tuple([_picked_group(some, picks) for some, picks in stages])
        left = _step_on(stages)


class Grouping:
    """A grouping; it never changes."""

    def __init__(self, groups):
        if not is_groups(groups):
            raise InvalidGrouping("shape", -1)
        self._groups = tuple([tuple(group) for group in groups])

    @property
    def groups(self):
        """The ascending tuple of the groups."""
        return self._groups

    @property
    def members(self):
        """The set of all integers in the groups."""
        return tuple(sorted([value for group in self._groups for value in group]))

    def __len__(self):
        return len(self._groups)

    def __contains__(self, x):
        return is_among(x, self._groups)

    def __eq__(self, other):
        return isinstance(other, Grouping) and self._groups == other._groups

    def group_of(self, value):
        """Return the group with this value."""
        if is_integer(value):
            for group in self._groups:
                if value in group:
                    return group
        raise InvalidGrouping("value", value)

    def is_finer(self, h):
        """Return whether each group is a part of a group of h, and the two are different."""
        if self.members != h.members:
            raise InvalidGrouping("values", -1)
        return self._groups != h.groups and _met(self._groups, h.groups) == self._groups

    def __and__(self, other):
        if self.members != other.members:
            raise InvalidGrouping("values", -1)
        return Grouping(_met(self._groups, other.groups))

    def __or__(self, other):
        if self.members != other.members:
            raise InvalidGrouping("values", -1)
        return Grouping(_joined(self._groups, other.groups))

    def merged(self, i, j):
        """Return the Grouping in which groups i and j are one."""
        for k in (i, j):
            if not is_number(k) or k >= len(self._groups):
                raise InvalidGrouping("group", k)
        if i == j:
            raise InvalidGrouping("same", -1)
        others = [group for k, group in enumerate(self._groups) if k not in (i, j)]
        both = tuple(sorted([*self._groups[i], *self._groups[j]]))
        return Grouping(tuple(sorted([*others, both])))

    def splits(self):
        """Yield all Groupings in which one group is divided into two and the others are as here, ascending."""
        # A half that begins as its group does makes the tuple of the groups less than a division further behind
        # does, and the less the further in front it is; any other half makes it greater.
        for k, group in enumerate(self._groups):
            for cut in range(1, len(group)):
                yield Grouping(divided(self._groups, k, _division_by(group, group[:cut])))
        for k in reversed(range(len(self._groups))):
            group = self._groups[k]
            for at, half in enumerate(_halves(group)):
                if at >= len(group):
                    yield Grouping(divided(self._groups, k, _division_by(group, half)))

    @staticmethod
    def whole(values):
        """Return the Grouping in which each value stands alone."""
        return Grouping(tuple([(value,) for value in sorted(set(values))]))

    @staticmethod
    def one(values):
        """Return the Grouping with one group of all values, without a group if there are none."""
        group = tuple(sorted(set(values)))
        return Grouping((group,) if group else ())


def _met(groups, others):
    """Return the nonempty common parts of the groups of two groupings, ascending."""
    places = {value: k for k, group in enumerate(others) for value in group}
    found = {}
    for k, group in enumerate(groups):
        for value in group:
            found.setdefault((k, places[value]), []).append(value)
    return tuple(sorted([tuple(found[key]) for key in found]))


def _joined(groups, others):
    """Return the groups that hold together whatever is together in either of two groupings, ascending."""
    homes = {value: k for k, group in enumerate(groups) for value in group}
    roots = list(range(len(groups)))
    for other in others:
        first = _root(roots, homes[other[0]])
        for value in other:
            roots[_root(roots, homes[value])] = first
    found = {}
    # The values ascend, so the groups are found in the order of their least values.
    for value in sorted(list(homes)):
        found.setdefault(_root(roots, homes[value]), []).append(value)
    return tuple([tuple(found[key]) for key in found])


def _root(roots, k):
    """Return the group to which group k has come, by one or more steps."""
    while roots[k] != k:
        k = roots[k]
    return k


def _division_by(group, half):
    """Return the pair of this half and the rest of a group."""
    return half, tuple([value for value in group if value not in half])


def _halves(group):
    """Yield all parts of a group with its least value, also the whole group, ascending."""
    picks = ()
    while picks is not None:
        yield _picked_group(group, picks)
        picks = _next_picks(picks, len(group) - 1)


def _picked_group(values, picks):
    """Return the least value together with those that are picked among the others by their indexes."""
    return values[0], *[values[1 + k] for k in picks]


def _next_picks(picks, many):
    """Return the ascending tuple of indexes below many that follows this one, or None behind the last one."""
    if picks and picks[-1] + 1 < many:
        return *picks, picks[-1] + 1
    if not picks and many > 0:
        return (0,)
    if len(picks) < 2:
        return None
    return *picks[:-2], picks[-2] + 1


def _step_on(stages):
    """Take the next group at the last stage that has one; return the values that it leaves, or None at the end."""
    while stages:
        values, picks = stages.pop()
        picks = _next_picks(picks, len(values) - 1)
        if picks is not None:
            stages.append((values, picks))
            return tuple([values[1 + k] for k in range(len(values) - 1) if k not in picks])
    return None
