"""Services that are made anew from their logs."""

from mumhouse.errors import InvalidHall
from mumhouse.events import is_event
from mumhouse.services import Service


def is_log(thing):
    """Return whether any value is a tuple of the beginning of a service and of events by kind."""
    if not isinstance(thing, tuple) or len(thing) == 0 or not _begins(thing[0]):
        return False
    return all([is_event(event) for event in thing[1:]])


def replayed(log):
    """Return a new service after the events of a log, or raise the first error."""
    service = begun(log[0])
    service.relive(log[1:], False)
    return service


def begun(beginning):
    """Return the service with the beginning ("service", scene, world, rule, permits), or raise an error."""
    _, scene, world, rule, permits = beginning
    return Service(scene, world, rule=rule, permits=permits)


def _begins(thing):
    """Return whether any value is the beginning of a service that can be made."""
    if not isinstance(thing, tuple) or len(thing) != 5 or thing[0] != "service":
        return False
    try:
        begun(thing)
    except InvalidHall:
        return False
    return True
