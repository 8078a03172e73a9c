"""The events of a service by kind, and whether they are possible in a hall."""

from mumhouse.expressions import CONDITION, NUMBER, is_condition, is_number_expression, wrong_path
from mumhouse.halls import Hall
from mumhouse.kinds import is_name, is_names, is_number, is_part
from mumhouse.measures import is_rule
from mumhouse.mumness import is_mum

# What stands behind each word.
EVENTS = {
    "aloud": ("ask",),
    "permit": ("name", "ask"),
    "alone": ("name", "number"),
    "secret": ("statement", "names"),
    "drop": ("number",),
    "outside": ("statement",),
    "rule": ("name",),
    "few": ("number",),
    "asker": ("name",),
}


def is_event(thing):
    """Return whether any value is an event by kind."""
    if not isinstance(thing, tuple) or len(thing) == 0 or not isinstance(thing[0], str):
        return False
    kinds = EVENTS.get(thing[0])
    if kinds is None or len(thing) != len(kinds) + 1:
        return False
    return all([_is_of_kind(item, kind) for item, kind in zip(thing[1:], kinds)])


def own_permits(hall, asker):
    """Return the list of the permits of an asker, in order."""
    return [permit for permit in hall.permits if permit[0] == asker]


def changed_hall(hall, event):
    """Return the hall behind an event that changes its scene alone."""
    word = event[0]
    if word == "secret":
        _, statement, knowers = event
        return hall.with_secret(statement, *knowers)
    if word == "drop":
        return hall.without_secret(event[1])
    if word == "few":
        return hall.with_few(event[1])
    house, askers, secrets, few = hall.scene
    return Hall((house, tuple(sorted([*askers, event[1]])), secrets, few), hall.worlds, hall.permits)


def reason_against(hall, event, most):
    """Return the first reason why an event by kind is not possible in a hall, or None.

    most has, for the word of each event that adds something to the hall, how many of it a hall may have.
    """
    # Each event has some of these reasons only, and all of them in this order.
    word = event[0]
    if word in ("secret", "outside") and wrong_path(event[1], CONDITION, hall.scene[0]) is not None:
        return "statement"
    if not _has_right_askers(hall, event):
        return "asker"
    if word in ("aloud", "permit") and wrong_path(event[-1], NUMBER, hall.scene[0]) is not None:
        return "ask"
    if not _has_right_number(hall, event):
        return "number"
    if word == "rule" and not is_rule(event[1]):
        return "rule"
    if word in most and _how_many(hall, word) >= most[word]:
        return "many"
    if word in ("secret", "few") and not is_mum(changed_hall(hall, event)):
        return "tells"
    return None


def _is_of_kind(thing, kind):
    if kind == "ask":
        return is_number_expression(thing)
    if kind == "statement":
        return is_condition(thing)
    if kind == "names":
        return is_names(thing)
    return is_number(thing) if kind == "number" else is_name(thing)


def _has_right_askers(hall, event):
    """Return whether the names in an event are askers, or is none yet if it is to become one."""
    askers = hall.scene[1]
    if event[0] == "asker":
        return event[1] not in askers
    if event[0] == "secret":
        return is_part(event[2], askers)
    return event[0] not in ("permit", "alone") or event[1] in askers


def _has_right_number(hall, event):
    """Return whether the index in an event is that of a permit of the asker, or of a secret."""
    if event[0] == "alone":
        return event[2] < len(own_permits(hall, event[1]))
    return event[0] != "drop" or event[1] < len(hall.scene[2])


def _how_many(hall, word):
    """Return how many permits, secrets or askers a hall has."""
    if word == "permit":
        return len(hall.permits)
    return len(hall.scene[2]) if word == "secret" else len(hall.scene[1])
