"""What the events of a service say, and what they change."""

from mumhouse.events import changed_hall, own_permits
from mumhouse.halls import Hall
from mumhouse.measures import chosen
from mumhouse.mumness import told_secrets
from mumhouse.permitting import permit_by_rule
from mumhouse.values import is_true, value_of, values_over

# What stands where in a moment, the tuple of what a service has between two events.
HALL = 0
RULE = 1
SAID = 2
LOST = 3
HEARD = 4


def first_moment(hall, rule):
    """Return the moment of a service before its first event."""
    return hall, rule, (), (), ()


def happened(moment, world, event):
    """Return what is said by a possible event where this world is the true one, and the moment behind it."""
    word = event[0]
    if word == "aloud":
        return _aloud(moment, world, event[1])
    if word == "permit":
        return _permit(moment, event[1], event[2])
    if word == "alone":
        return _alone(moment, world, event[1], event[2])
    if word == "outside":
        return _heard_by_all(moment, world, event[1])
    hall, rule, said, lost, heard = moment
    if word == "rule":
        return (), (hall, event[1], said, lost, heard)
    return (), (changed_hall(hall, event), rule, said, lost, heard)


def _aloud(moment, world, ask):
    hall, rule, said, lost, heard = moment
    group = _group_with(chosen(hall, ask, rule), value_of(hall.scene[0], world, ask))
    return group, (hall(ask, group), rule, (*said, (ask, group)), lost, heard)


def _permit(moment, asker, ask):
    hall, rule, said, lost, heard = moment
    grouping = permit_by_rule(hall, asker, ask, rule)
    return grouping, (hall.with_permit(asker, ask, grouping), rule, said, lost, heard)


def _alone(moment, world, asker, n):
    hall, rule, said, lost, heard = moment
    _, ask, grouping = own_permits(hall, asker)[n]
    group = _group_with(grouping, value_of(hall.scene[0], world, ask))
    return group, (hall, rule, said, lost, (*heard, (asker, n, group)))


def _heard_by_all(moment, world, statement):
    hall, rule, said, lost, heard = moment
    house, askers, secrets, few = hall.scene
    truth = is_true(house, world, statement)
    truths = values_over(house, hall.worlds, statement)
    worlds = tuple([some for some, true in zip(hall.worlds, truths) if true == truth])
    told = told_secrets(Hall(hall.scene, worlds, hall.permits))
    lost = (*lost, *[secrets[k] for k in told])
    kept = tuple([secret for k, secret in enumerate(secrets) if k not in told])
    there = Hall((house, askers, kept, few), worlds, hall.permits)
    return (truth,), (there, rule, (*said, (statement, (truth,))), lost, heard)


def _group_with(grouping, value):
    """Return the group of a grouping that has this value."""
    return [group for group in grouping if value in group][0]
