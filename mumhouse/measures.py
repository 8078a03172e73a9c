"""How much the mum groupings of an ask can say, and the grouping that a house takes by its rule."""

from mumhouse.errors import InvalidHall
from mumhouse.expressions import lets_ask
from mumhouse.finest import finest_groupings
from mumhouse.groupings import not_alone
from mumhouse.kinds import is_among
from mumhouse.mumness import is_mum
from mumhouse.ruling import alike_grouping
from mumhouse.values import values_over

RULES = ("alike", "finest", "bold")


def most_groups(hall, ask):
    """Return the most groups of a mum grouping, and the least finest one with so many; None if there is none."""
    found = finest_groupings(hall, ask)
    return first_greatest([len(grouping) for grouping in found], found)


def fewest_refused(hall, ask):
    """Return the fewest values that do not stand alone in a mum grouping, and the least finest one with so few."""
    found = finest_groupings(hall, ask)
    pair = first_greatest([-len(not_alone(grouping)) for grouping in found], found)
    return None if pair is None else (-pair[0], pair[1])


def most_whole(hall, ask):
    """Return the most worlds with a whole answer by a mum grouping, and the least finest one with so many."""
    found = finest_groupings(hall, ask)
    return first_greatest([whole_worlds(hall, ask, grouping) for grouping in found], found)


def chosen(hall, ask, word):
    """Return the grouping that the rule with this word takes, or None if the hall is not mum."""
    lets_ask(hall.scene[0], ask)
    if not is_rule(word):
        raise InvalidHall("rule", word)
    if not is_mum(hall):
        return None
    if word == "alike":
        return alike_grouping(hall, ask)
    _, grouping = most_groups(hall, ask) if word == "finest" else most_whole(hall, ask)
    return grouping


def is_rule(thing):
    """Return whether any value is the word of a rule."""
    return is_among(thing, RULES)


def first_greatest(numbers, groupings):
    """Return the greatest of the numbers of some groupings, and the first grouping with it; None if there are none."""
    if not groupings:
        return None
    most = max(numbers)
    return most, groupings[numbers.index(most)]


def whole_worlds(hall, ask, grouping):
    """Return the number of the worlds of the hall in which the grouping gives a whole answer."""
    return len([value for value in values_over(hall.scene[0], hall.worlds, ask) if (value,) in grouping])
