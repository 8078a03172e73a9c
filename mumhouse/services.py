"""A live house, step by step."""

from mumhouse.errors import InvalidEvent, InvalidHall, NothingToUndo, UnknownAsker
from mumhouse.events import is_event, own_permits, reason_against
from mumhouse.eventtexts import event_line
from mumhouse.halls import Hall, lets_asker
from mumhouse.happenings import HALL, HEARD, LOST, RULE, SAID, first_moment, happened
from mumhouse.kinds import same
from mumhouse.knowing import known
from mumhouse.measures import chosen, is_rule
from mumhouse.mumness import told_secrets
from mumhouse.permitting import permit_by_rule
from mumhouse.whynot import needed_drops


class Service:
    """A house that answers, gives permits and hears news; its hall is mum at every moment."""

    MOST = 40
    PERMITS = 4
    SECRETS = 3
    ASKERS = 3

    def __init__(self, scene, world, *, rule="finest", permits=()):
        hall = Hall(scene, None, permits)
        if world not in hall:
            raise InvalidHall("true", -1)
        if not is_rule(rule):
            raise InvalidHall("rule", rule)
        told = told_secrets(hall)
        if told:
            raise InvalidHall("tells", told[0])
        self._world = world
        # A row for the beginning and one for each event: what the log says of it, and the moment behind it. Events
        # put another tuple in the place of this one; so what is tried and what fails leaves nothing behind.
        self._past = ((("service", scene, world, rule, permits), first_moment(hall, rule)),)
        self._operations = 0

    @property
    def hall(self):
        """The Hall as it is now."""
        return self._past[-1][1][HALL]

    @property
    def rule(self):
        """The word of the rule by which the house answers now."""
        return self._past[-1][1][RULE]

    @property
    def said(self):
        """The tuple of what all have heard: pairs of an ask or a statement and what was said."""
        return self._past[-1][1][SAID]

    @property
    def lost(self):
        """The tuple of the secrets that news from outside has told."""
        return self._past[-1][1][LOST]

    def aloud(self, ask):
        """Answer an ask aloud; return the group that is said."""
        return self.go(("aloud", ask))

    def permit(self, asker, ask):
        """Give a permit to an asker; return its grouping."""
        return self.go(("permit", asker, ask))

    def alone(self, asker, n):
        """Tell an asker alone the group by the own permit n; return the group."""
        return self.go(("alone", asker, n))

    def secret(self, statement, knowers):
        """Add a secret."""
        return self.go(("secret", statement, knowers))

    def drop(self, k):
        """Leave out secret k."""
        return self.go(("drop", k))

    def outside(self, statement):
        """Let all hear from elsewhere whether a statement is true; return the tuple of this."""
        return self.go(("outside", statement))

    def set_rule(self, word):
        """Answer by another rule from now on."""
        return self.go(("rule", word))

    def set_few(self, number):
        """Look at fews of so many askers from now on."""
        return self.go(("few", number))

    def new_asker(self, name):
        """Add an asker, who is no knower and has no permit."""
        return self.go(("asker", name))

    def go(self, event):
        """Apply any event; return what is said by it."""
        self._operations += 1
        said, self._past = self._behind(self._past, event)
        return said

    def __call__(self, ask):
        return self.aloud(ask)

    def heard(self, asker):
        """Return the tuple of the pairs (n, what was said) of all that an asker was told alone."""
        lets_asker(self.hall, asker)
        return tuple([(n, group) for name, n, group in self._past[-1][1][HEARD] if name == asker])

    def __contains__(self, x):
        return x in self._past[-1][1][HALL]

    def __len__(self):
        return len(self._past[1:])

    def __eq__(self, other):
        if not isinstance(other, Service):
            return False
        return same([row[0] for row in self._past], [row[0] for row in other._past])

    def tried(self, *events):
        """Return what is said by each of the events if they are applied in order; nothing changes."""
        found = []
        past = self._past
        for event in events:
            said, past = self._behind(past, event)
            found.append(said)
        return tuple(found)

    def undo(self):
        """Take back the last event and return it."""
        self._operations += 1
        if len(self._past) == 1:
            raise NothingToUndo(0)
        event = self._past[-1][0]
        self._past = self._past[:-1]
        return event

    def do_all(self, *events, keep=False):
        """Apply events in order and return their number; those before an error are kept only if keep is True."""
        self._operations += 1
        self.relive(events, keep)
        return len(events)

    def relive(self, events, keep):
        """Apply events as do_all does, but do not count this."""
        past = self._past
        for event in events:
            _, past = self._behind(past, event)
            if keep is True:
                self._past = past
        self._past = past

    def counts(self):
        """Return the numbers of started and of finished operations."""
        # Whoever asks is not within an operation, so each one that was started is finished, perhaps by an error.
        return self._operations, self._operations

    def table(self):
        """Return the list of a row for each asker: permits, what was heard alone, and the worlds in the view."""
        rows = []
        for name in self.hall.scene[1]:
            permits, heard = len(own_permits(self.hall, name)), len(self.heard(name))
            seen = len(self.hall.view((name,), self._world))
            rows.append(f"{name:<8} {permits:>3} {heard:>3} {seen:>3}")
        return rows

    def next_grouping(self, ask):
        """Return the grouping by which an ask would be answered aloud now."""
        return chosen(self.hall, ask, self.rule)

    def next_permit(self, asker, ask):
        """Return the grouping of the permit that an asker would get now."""
        return permit_by_rule(self.hall, asker, ask, self.rule)

    def drops_needed(self, ask):
        """Return the set of the indexes of the secrets that stand in the way of whole answers to an ask."""
        return needed_drops(self.hall, ask)

    def knows(self, askers, statement):
        """Return what some askers together know of a statement: True, False, or None if it is open to them."""
        if not isinstance(askers, tuple):
            raise UnknownAsker(askers)
        return known(self.hall.scene[0], self.hall.view(askers, self._world), statement)

    def log(self):
        """Return the tuple of the beginning and of all events, from which an equal service can be made."""
        return tuple([row[0] for row in self._past])

    def __str__(self):
        lines = [event_line(row[0]) for row in self._past[1:]]
        return " / ".join(lines if lines else ["-"])

    def _behind(self, past, event):
        """Return what is said by an event behind this past, and the past with it, or raise InvalidEvent."""
        if not is_event(event):
            raise InvalidEvent(event, "shape")
        if len(past) > self.MOST:
            raise InvalidEvent(event, "full")
        moment = past[-1][1]
        most = {"permit": self.PERMITS, "secret": self.SECRETS, "asker": self.ASKERS}
        reason = reason_against(moment[HALL], event, most)
        if reason is not None:
            raise InvalidEvent(event, reason)
        said, behind = happened(moment, self._world, event)
        return said, (*past, (event, behind))
