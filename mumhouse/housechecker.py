"""Whether a value is a house."""

from mumhouse.errors import InvalidPaper
from mumhouse.expressions import CONDITION, wrong_path
from mumhouse.kinds import is_integer, is_name, is_names


def lets_house(thing):
    """Return the number of people of a house, or raise InvalidPaper for the first thing that is wrong."""
    if not _has_shape(thing):
        raise InvalidPaper("shape", -1)
    people, fields, rules = thing
    if len(people) == 0 or not is_names(people):
        raise InvalidPaper("people", -1)
    if len(fields) == 0:
        raise InvalidPaper("fields", -1)
    for k, (name, low, high) in enumerate(fields):
        if low > high or k > 0 and name <= fields[k - 1][0]:
            raise InvalidPaper("field", k)
    for k, rule in enumerate(rules):
        if wrong_path(rule, CONDITION, thing) is not None:
            raise InvalidPaper("rule", k)
    return len(people)


def _has_shape(thing):
    if not isinstance(thing, tuple) or len(thing) != 3:
        return False
    if not all([isinstance(part, tuple) for part in thing]):
        return False
    people, fields, _ = thing
    return all([is_name(person) for person in people]) and all([_is_triple(field) for field in fields])


def _is_triple(field):
    if not isinstance(field, tuple) or len(field) != 3:
        return False
    name, low, high = field
    return is_name(name) and is_integer(low) and is_integer(high)
