"""A service by points 62, 63 and 70, word by word and slowly, over plain halls (scene, worlds, permits)."""

from mumhouse.errors import UnfitExpression
from mumhouse.expressions import lets_ask, lets_statement
from mumhouse.values import is_true, value_of
from tests import reference
from tests.samples import ANN, BOB, SUM, TOP, W
from tests.test_groupings import partitions

RULES = ('alike', 'finest', 'bold')


def fits(check, house, thing):
    try:
        check(house, thing)
    except UnfitExpression:
        return False
    return True


def alone_in(hall, ask, grouping):
    """The number of the worlds in which the value of the ask stands alone."""
    return sum((value_of(hall[0][0], world, ask),) in grouping for world in hall[1])


def by_rule(hall, ask, rule, mum):
    """The grouping that a rule chooses among all that are mum, aloud or alone."""
    values = reference.values(hall, ask)
    if rule == 'alike':
        whole = tuple((value,) for value in values)
        return whole if whole in mum else (values,)
    finest = reference.finest_of(mum)
    if rule == 'finest':
        most = max(len(some) for some in finest)
        return min(some for some in finest if len(some) == most)
    most = max(alone_in(hall, ask, some) for some in finest)
    return min(some for some in finest if alone_in(hall, ask, some) == most)


def with_permit(hall, asker, ask, grouping):
    return hall[0], hall[1], (*hall[2], (asker, ask, grouping))


class SlowService:
    def __init__(self, scene, worlds, world, rule, permits):
        self.hall = (scene, worlds, permits)
        self.world = world
        self.rule = rule
        self.events, self.said, self.lost, self.heard = [], [], [], []

    def next_grouping(self, ask):
        return by_rule(self.hall, ask, self.rule, reference.mum_groupings(self.hall, ask))

    def next_permit(self, asker, ask):
        mum = [some for some in partitions(reference.values(self.hall, ask))
               if reference.mum(with_permit(self.hall, asker, ask, some))]
        return by_rule(self.hall, ask, self.rule, mum)

    def knows(self, askers, statement):
        view = reference.view(self.hall, tuple(askers), self.world)
        truths = {is_true(self.hall[0][0], world, statement) for world in view}
        return None if len(truths) == 2 else truths.pop()

    def own(self, asker):
        return [permit for permit in self.hall[2] if permit[0] == asker]

    def table(self):
        rows = []
        for name in self.hall[0][1]:
            seen = len(reference.view(self.hall, (name,), self.world))
            heard = len([row for row in self.heard if row[0] == name])
            rows.append(name.ljust(8) + ' ' + ' '.join(str(n).rjust(3) for n in (len(self.own(name)), heard, seen)))
        return rows

    def changed(self, event):
        (house, askers, secrets, few), worlds, permits = self.hall
        word = event[0]
        if word == 'secret':
            secrets = (*secrets, (event[1], event[2]))
        if word == 'drop':
            secrets = secrets[:event[1]] + secrets[event[1] + 1:]
        if word == 'few':
            few = event[1]
        if word == 'asker':
            askers = tuple(sorted((*askers, event[1])))
        return (house, askers, secrets, few), worlds, permits

    def reason(self, event):
        """Why an event by kind is not possible, by point 63; None if it is."""
        (house, askers, secrets, _), _, permits = self.hall
        word, *rest = event
        reasons = [('full', len(self.events) >= 40)]
        if word == 'aloud':
            reasons += [('ask', not fits(lets_ask, house, rest[0]))]
        if word == 'permit':
            reasons += [('asker', rest[0] not in askers), ('ask', not fits(lets_ask, house, rest[1])),
                        ('many', len(permits) >= 4)]
        if word == 'alone':
            reasons += [('asker', rest[0] not in askers), ('number', rest[1] >= len(self.own(rest[0])))]
        if word == 'secret':
            wrong = not fits(lets_statement, house, rest[0])
            reasons += [('statement', wrong), ('asker', not set(rest[1]) <= set(askers)), ('many', len(secrets) >= 3)]
            reasons += [('tells', not any(bad for _, bad in reasons) and not reference.mum(self.changed(event)))]
        if word == 'drop':
            reasons += [('number', rest[0] >= len(secrets))]
        if word == 'outside':
            reasons += [('statement', not fits(lets_statement, house, rest[0]))]
        if word == 'rule':
            reasons += [('rule', rest[0] not in RULES)]
        if word == 'few':
            reasons += [('tells', not reference.mum(self.changed(event)))]
        if word == 'asker':
            reasons += [('asker', rest[0] in askers), ('many', len(askers) >= 3)]
        return next((reason for reason, bad in reasons if bad), None)

    def apply(self, event):
        """What a possible event says."""
        self.events.append(event)
        word, *rest = event
        house = self.hall[0][0]
        if word == 'aloud':
            group = self.group(self.next_grouping(rest[0]), rest[0])
            self.hall = reference.behind(self.hall, rest[0], group)
            self.said.append((rest[0], group))
            return group
        if word == 'permit':
            grouping = self.next_permit(*rest)
            self.hall = with_permit(self.hall, *rest, grouping)
            return grouping
        if word == 'alone':
            _, ask, grouping = self.own(rest[0])[rest[1]]
            group = self.group(grouping, ask)
            self.heard.append((rest[0], rest[1], group))
            return group
        if word == 'outside':
            truth = is_true(house, self.world, rest[0])
            scene, worlds, permits = self.hall
            worlds = tuple(world for world in worlds if is_true(house, world, rest[0]) == truth)
            told = {k for _, k, _ in reference.tellings((scene, worlds, permits))}
            self.lost += [secret for k, secret in enumerate(scene[2]) if k in told]
            kept = tuple(secret for k, secret in enumerate(scene[2]) if k not in told)
            self.hall = ((*scene[:2], kept, scene[3]), worlds, permits)
            self.said.append((rest[0], (truth,)))
            return (truth,)
        if word == 'rule':
            self.rule = rest[0]
        self.hall = self.changed(event)
        return ()

    def group(self, grouping, ask):
        value = value_of(self.hall[0][0], self.world, ask)
        return next(group for group in grouping if value in group)


class EventMaker:
    """Makes events, most of them possible, the same ones in each run."""

    def __init__(self, seed):
        self.maker = reference.HallMaker(seed)
        self.random = self.maker.random

    def ask(self, hall):
        if self.random.random() < 0.05:
            return self.random.choice((('of', 'zed', 'pay'), ('my', 'pay'), ('of', 'ann', 'age')))
        while True:
            ask = self.maker.ask()
            if len(reference.values(hall, ask)) < 6:
                return ask

    def statement(self):
        if self.random.random() < 0.05:
            return ('=', ('of', 'zed', 'pay'), 0)
        k = self.random.randrange(5)
        return self.random.choice((*reference.STATEMENTS, ('=', SUM, k), ('<', ANN, k), ('=', BOB, k % 3), ('not', TOP[0])))

    def asker(self, hall):
        return self.random.choice((*hall[0][1] * 3, 'x', 'y', 'w'))

    def event(self, hall):
        word = self.random.choice(('aloud', 'aloud', 'permit', 'permit', 'permit', 'alone', 'alone', 'secret', 'secret', 'drop',
                                   'outside',
                                   'rule', 'few', 'asker'))
        if word == 'aloud':
            return word, self.ask(hall)
        if word == 'permit':
            return word, self.asker(hall), self.ask(hall)
        if word == 'alone':
            return word, self.asker(hall), self.random.randrange(3)
        if word == 'secret':
            return word, self.statement(), tuple(sorted({self.asker(hall) for _ in range(self.random.randrange(3))}))
        if word == 'drop':
            return word, self.random.randrange(3)
        if word == 'outside':
            return word, self.statement()
        if word == 'rule':
            return word, self.random.choice((*RULES, *RULES, *RULES, 'plain'))
        return (word, self.random.randrange(4)) if word == 'few' else (word, self.random.choice(('x', 'y', 'z', 'w', 'v')))

    def beginning(self, permits=3):
        """A scene, all worlds of it, a true world, a rule and permits of which a service can be made."""
        while True:
            hall = self.maker.mum_hall(permits)
            values = {permit: set(reference.values((hall.scene, W, ()), permit[1])) for permit in hall.permits}
            given = tuple(permit for permit in hall.permits
                          if values[permit] <= {value for group in permit[2] for value in group})
            if reference.mum((hall.scene, W, given)):
                return hall.scene, W, self.random.choice(W), self.random.choice(RULES), given
