"""Halls: what all consider possible, what must not be known, and what each asker may learn alone."""

from itertools import combinations

from mumhouse.errors import InvalidGrouping, InvalidHall, InvalidPaper, UnknownAsker
from mumhouse.expressions import CONDITION, NUMBER, lets_ask, lets_statement, wrong_path
from mumhouse.groupings import is_group, is_grouping_of, is_groups
from mumhouse.housechecker import lets_house
from mumhouse.kinds import is_among, is_names, is_number, same
from mumhouse.knowing import values_in
from mumhouse.views import has_values, looks, worlds_of_group
from mumhouse.worlds import are_possible, is_world, possible_worlds


class Hall:
    """A hall; it never changes, and it may tell secrets."""

    def __init__(self, scene, worlds=None, permits=()):
        _check_scene(scene)
        if worlds is None:
            worlds = tuple(possible_worlds(scene[0]))
        _check_worlds(scene[0], worlds)
        _check_permits(scene, worlds, permits)
        self._scene = scene
        self._worlds = worlds
        self._permits = permits

    @property
    def scene(self):
        """The tuple (house, askers, secrets, few)."""
        return self._scene

    @property
    def worlds(self):
        """The set of the worlds that all consider possible."""
        return self._worlds

    @property
    def permits(self):
        """The tuple of the permits (asker, ask, grouping)."""
        return self._permits

    def __len__(self):
        return len(self._worlds)

    def __contains__(self, x):
        return is_among(x, self._worlds)

    def __eq__(self, other):
        if not isinstance(other, Hall) or not same(self._scene, other._scene):
            return False
        return same(self._worlds, other._worlds) and same(self._permits, other._permits)

    def fews(self):
        """Yield every few, those with fewer askers first, equally many ascending."""
        _, askers, _, most = self._scene
        for size in range(min(most, len(askers)) + 1):
            yield from _picks(list(askers), size)

    def seen_by(self, few):
        """Return for each world the tuple of the indexes of the groups in which it is for the permits of a few."""
        asked = [(ask, grouping) for asker, ask, grouping in self._permits if asker in few]
        return looks(self._scene[0], self._worlds, asked)

    def view(self, few, world):
        """Return the set of the worlds that a few, a tuple of names in any order, considers possible in a world."""
        for asker in few:
            lets_asker(self, asker)
        if not is_among(world, self._worlds):
            raise InvalidHall("world", world)
        seen = self.seen_by(few)
        look = seen[self._worlds.index(world)]
        return tuple([some for some, other in zip(self._worlds, seen) if other == look])

    def __call__(self, ask, group):
        """Return the hall behind a group of the values of an ask that is said aloud."""
        values = values_in(self._scene[0], self._worlds, ask)
        if not is_group(group) or not all([value in values for value in group]):
            raise InvalidGrouping("group", -1)
        return Hall(self._scene, worlds_of_group(self._scene[0], self._worlds, ask, group), self._permits)

    def with_permit(self, asker, ask, grouping):
        """Return the hall with this permit more, the last one."""
        lets_asker(self, asker)
        lets_grouping(self, ask, grouping)
        return Hall(self._scene, self._worlds, (*self._permits, (asker, ask, grouping)))

    def with_secret(self, statement, *knowers):
        """Return the hall with this secret more, the last one."""
        for knower in knowers:
            lets_asker(self, knower)
        house, askers, secrets, few = self._scene
        lets_statement(house, statement)
        secret = (statement, tuple(sorted(set(knowers))))
        return Hall((house, askers, (*secrets, secret), few), self._worlds, self._permits)

    def without_secret(self, k):
        """Return the hall without secret k."""
        house, askers, secrets, few = self._scene
        if not is_number(k) or k >= len(secrets):
            raise InvalidHall("secret", k)
        return Hall((house, askers, (*secrets[:k], *secrets[k + 1:]), few), self._worlds, self._permits)

    def with_few(self, few):
        """Return the hall with another number of askers that may put together what they know."""
        house, askers, secrets, _ = self._scene
        return Hall((house, askers, secrets, few), self._worlds, self._permits)


def lets_asker(hall, thing):
    """Raise UnknownAsker if any value is none of the askers of a hall."""
    if not is_among(thing, hall.scene[1]):
        raise UnknownAsker(thing)


def lets_grouping(hall, ask, grouping):
    """Raise an error if the ask, or the grouping of it for the worlds of a hall, does not fit; both any values."""
    values = values_in(hall.scene[0], hall.worlds, ask)
    if not is_groups(grouping):
        raise InvalidGrouping("shape", -1)
    if not is_grouping_of(grouping, values):
        raise InvalidGrouping("values", -1)


def lets_list(hall, asks):
    """Raise UnfitExpression for the first of asks that is no ask of the house of a hall."""
    for ask in asks:
        lets_ask(hall.scene[0], ask)


def _check_scene(scene):
    if not isinstance(scene, tuple) or len(scene) != 4:
        raise InvalidHall("scene", -1)
    house, askers, secrets, few = scene
    if not _is_house(house):
        raise InvalidHall("house", -1)
    if not is_names(askers):
        raise InvalidHall("askers", -1)
    if not isinstance(secrets, tuple) or not all([isinstance(pair, tuple) and len(pair) == 2 for pair in secrets]):
        raise InvalidHall("secrets", -1)
    for k, (statement, knowers) in enumerate(secrets):
        if wrong_path(statement, CONDITION, house) is not None or not _are_askers(knowers, askers):
            raise InvalidHall("secret", k)
    if not is_number(few):
        raise InvalidHall("few", -1)


def _is_house(thing):
    try:
        lets_house(thing)
    except InvalidPaper:
        return False
    return True


def _check_worlds(house, worlds):
    if not isinstance(worlds, tuple) or len(worlds) == 0:
        raise InvalidHall("worlds", -1)
    many = len(worlds)
    for k, world in enumerate(worlds):
        # The rules can be looked at only in what is a world; so what stands behind another value is left out.
        if not is_world(house, world) or k > 0 and world <= worlds[k - 1]:
            many = k
            break
    for k, possible in enumerate(are_possible(house, worlds[:many])):
        if not possible:
            raise InvalidHall("world", k)
    if many < len(worlds):
        raise InvalidHall("world", many)


def _check_permits(scene, worlds, permits):
    if not isinstance(permits, tuple):
        raise InvalidHall("permits", -1)
    for k, permit in enumerate(permits):
        if not _is_permit(scene, worlds, permit):
            raise InvalidHall("permit", k)


def _is_permit(scene, worlds, thing):
    if not isinstance(thing, tuple) or len(thing) != 3:
        return False
    asker, ask, grouping = thing
    if not is_among(asker, scene[1]) or wrong_path(ask, NUMBER, scene[0]) is not None:
        return False
    return is_groups(grouping) and has_values(grouping, values_in(scene[0], worlds, ask))


def _are_askers(thing, askers):
    return is_names(thing) and all([name in askers for name in thing])


def _picks(names, size):
    """Return the list of all sets of so many of the names, ascending."""
    return list(combinations(names, size))
