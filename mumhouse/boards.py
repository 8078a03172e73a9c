"""Halls whose sets of worlds are numbers, so that very many of them can be looked at."""

from mumhouse.groupings import all_groupings
from mumhouse.values import values_over


class Board:
    """A hall in which a set of worlds is the number whose bit n is set if world n is in the set.

    The hall with some of the worlds has the same permits, so its views are what is left of the views in all worlds.
    """

    def __init__(self, hall):
        self._house, _, secrets, _ = hall.scene
        self._worlds = hall.worlds
        self.full = (1 << len(self._worlds)) - 1
        truths = [values_over(self._house, self._worlds, statement) for statement, _ in secrets]
        self._false = [_bits([not true for true in column]) for column in truths]
        self._dangers = []
        for few in hall.fews():
            views = _views(hall.seen_by(few))
            for k, (_, knowers) in enumerate(secrets):
                if not any([name in knowers for name in few]):
                    self._dangers.extend([(few, k, view) for view in views])
        # Many dangers are alike in what can be told by them.
        self._checks = sorted(set([(view, view & self._false[k]) for _, k, view in self._dangers]))
        self._kept = {}

    def dangers(self):
        """Return the ascending list of (few, k, view, false) for each view of a few that must not know secret k.

        false has the worlds of the view in which the statement of the secret is false.
        """
        rows = [(few, k, self.least(view), view) for few, k, view in self._dangers]
        return [(few, k, view, view & self._false[k]) for few, k, _, view in sorted(rows)]

    def keeps(self, bits):
        """Return whether the hall with these worlds is mum."""
        if bits not in self._kept:
            self._kept[bits] = not any([bits & view and not bits & false for view, false in self._checks])
        return self._kept[bits]

    def told(self, bits):
        """Return the set of the indexes of the secrets that the hall with these worlds tells to some few."""
        found = [k for _, k, view in self._dangers if bits & view and not bits & view & self._false[k]]
        return tuple(sorted(set(found)))

    def keeps_alone(self, asker, parts):
        """Return whether the hall is mum in which this asker also learns in which of these sets the world is.

        parts has each world in one set.
        """
        if not self.keeps(self.full):
            return False
        views = [(view, self._false[k]) for few, k, view in self._dangers if asker in few]
        return not any([view & part and not view & part & false for view, false in views for part in parts])

    def blocks(self, ask):
        """Return a dict of the sets of the worlds in which an ask has each of its values."""
        found = {}
        for n, value in enumerate(values_over(self._house, self._worlds, ask)):
            found[value] = found.get(value, 0) | (1 << n)
        return found

    def keeps_groups(self, blocks, bits, grouping):
        """Return whether each hall behind a group of an ask with these blocks is mum, in the hall with these worlds."""
        return all([self.keeps(part) for part in parts_of_groups(blocks, bits, grouping)])

    def parts_by(self, asks):
        """Return the list of the largest sets of worlds in which each of the asks has one value."""
        parts = [self.full]
        for ask in asks:
            blocks = self.blocks(ask)
            parts = [part & blocks[value] for part in parts for value in blocks if part & blocks[value]]
        return parts

    def mum_groupings(self, blocks, bits):
        """Return the list of all mum groupings of an ask with these blocks, aloud, in the hall with these worlds."""
        values = values_there(blocks, bits)
        return [some for some in all_groupings(values) if self.keeps_groups(blocks, bits, some)]

    def plain_grouping(self, blocks, bits):
        """Return the plain grouping of an ask with these blocks, in the hall with these worlds."""
        values = values_there(blocks, bits)
        said = [value for value in values if self.keeps(blocks[value] & bits)]
        refused = tuple([value for value in values if value not in said])
        groups = [(value,) for value in said]
        if refused:
            groups.append(refused)
        return tuple(sorted(groups))

    def bits_of(self, worlds):
        """Return the set of some of the worlds, given as a tuple."""
        return sum([1 << self._worlds.index(world) for world in worlds])

    def worlds_in(self, bits):
        """Return a set of worlds as a tuple."""
        return tuple([world for n, world in enumerate(self._worlds) if bits >> n & 1])

    def many(self, bits):
        """Return the number of the worlds in a set."""
        return len(self.worlds_in(bits))

    def least(self, bits):
        """Return the least world of a nonempty set."""
        return self._worlds[(bits & -bits).bit_length() - 1]


def values_there(blocks, bits):
    """Return the set of the values that an ask with these blocks has in these worlds."""
    return tuple(sorted([value for value in blocks if blocks[value] & bits]))


def parts_of_groups(blocks, bits, grouping):
    """Return the list of those of these worlds that stand behind each group of an ask with these blocks."""
    return [worlds_behind(blocks, bits, group) for group in grouping]


def worlds_behind(blocks, bits, group):
    """Return those of these worlds in which an ask with these blocks has a value of the group."""
    found = 0
    for value in group:
        found = found | blocks[value]
    return found & bits


def _bits(truths):
    """Return the set of the worlds for which this is true."""
    return sum([1 << n for n, true in enumerate(truths) if true])


def _views(seen):
    """Return the list of the sets of the worlds that are seen alike."""
    found = {}
    for n, look in enumerate(seen):
        found[look] = found.get(look, 0) | (1 << n)
    return [found[look] for look in found]
