"""Arguments are not changed, and what is returned belongs to the caller: point 2."""

from copy import deepcopy

from mumhouse.desk import Desk
from mumhouse.errors import MumError
from mumhouse.eventtexts import log_lines
from mumhouse.finestchecker import lets_finest
from mumhouse.finestpapers import finest_paper
from mumhouse.halls import Hall
from mumhouse.lists import best_tree
from mumhouse.measures import chosen, fewest_refused, most_groups, most_whole
from mumhouse.permitchecker import lets_permit
from mumhouse.permitpapers import permit_paper
from mumhouse.permitting import bearable, finest_permits, is_mum_alone, permit_costs
from mumhouse.replaying import is_log, replayed
from mumhouse.services import Service
from mumhouse.surechecker import lets_limit, lets_sure
from mumhouse.sureness import sure_answers
from mumhouse.surepapers import limit_tree, sure_tree
from mumhouse.treechecker import lets_tree
from mumhouse.whychecker import lets_why
from mumhouse.whynot import needed_drops, why_paper
from tests.samples import ANN, BOB, SCENE, SUM, SUMS, TOP, W, Case

TOLD = ('tells', (), 0, W[8])


def lists(thing):
    """The value with lists in place of the tuples in it, but for the outermost one."""
    return tuple(list(part) if isinstance(part, tuple) else part for part in thing)


def things(*papers):
    """Papers, and values like them that are wrong here and there."""
    return [some for paper in papers for some in (paper, lists(paper), list(paper), [*paper, [paper]],
                                                  (*paper[:-1], [paper[-1]]))]


class UnchangedTest(Case):
    def unchanged(self, function, *given):
        hall, *others = given
        before = repr([hall.scene, hall.worlds, hall.permits, others])
        kept = deepcopy(others)
        found = []
        for _ in range(2):
            try:
                found.append(function(hall, *others))
            except MumError as error:
                found.append([error.__class__, repr(vars(error))])
        self.same(repr([hall.scene, hall.worlds, hall.permits, others]), before)
        self.same(others, kept)
        self.same(found[0], found[1])

    def test_measures_and_permits(self):
        for hall in (Hall(SCENE), Hall(SCENE).with_permit('x', SUM, SUMS), Hall(SCENE)(SUM, (4,))):
            for asks in ((), (BOB,), (BOB, list(ANN)), (list(BOB),)):
                self.unchanged(sure_answers, hall, asks)
                self.unchanged(bearable, hall, 'x', asks)
                self.unchanged(permit_costs, hall, 'x', SUM, ((0, 1, 2, 3, 4),), asks)
            for ask in (SUM, list(SUM)):
                for number in (most_groups, fewest_refused, most_whole):
                    self.unchanged(number, hall, ask)
                for word in ('alike', 'finest', 'bold', ['bold']):
                    self.unchanged(chosen, hall, ask, word)
                self.unchanged(finest_permits, hall, 'x', ask)
                self.unchanged(finest_permits, hall, ['x'], ask)
                for grouping in (SUMS, lists(SUMS), list(SUMS)):
                    self.unchanged(is_mum_alone, hall, 'x', ask, grouping)
                    self.unchanged(finest_paper, hall, ask, grouping)
                    self.unchanged(permit_paper, hall, 'x', ask, grouping)

    def test_checkers(self):
        hall = Hall(SCENE)
        coarse = ((0,), (1, 2, 3, 4))
        for grouping in (SUMS, coarse):
            for thing in things(finest_paper(hall, SUM, grouping), ('tells', 3, TOLD)):
                self.unchanged(lets_finest, hall, SUM, grouping, thing)
            for thing in things(permit_paper(hall, 'x', SUM, grouping), ('tells', TOLD)):
                self.unchanged(lets_permit, hall, 'x', SUM, grouping, thing)

    def test_trees(self):
        hall = Hall(SCENE)
        for asks in ((), (BOB,), (ANN, BOB), (ANN, list(BOB))):
            for tree in (sure_tree, limit_tree, best_tree):
                self.unchanged(tree, hall, asks)
            self.unchanged(needed_drops, hall, *asks)
        for asks in ((BOB,), (ANN, BOB)):
            for lets, tree in ((lets_tree, best_tree), (lets_sure, sure_tree), (lets_limit, limit_tree)):
                for thing in things(tree(hall, asks)):
                    self.unchanged(lets, hall, asks, thing)
        self.unchanged(why_paper, hall, SUM, SUMS)
        for thing in things(why_paper(hall, SUM, SUMS)):
            self.unchanged(lets_why, hall, SUM, SUMS, thing)


class ServiceArgumentsTest(Case):
    def test_events(self):
        events = (('aloud', ['of', 'ann', 'pay']), ['aloud', SUM], ('secret', TOP[0], ['x']), ('secret', list(TOP[0]), ()), [],
                  [[]], (['few'], 1))
        before = repr(events)
        for event in events:
            service = Service(SCENE, W[6])
            for call in (lambda: service.go(event), lambda: service.tried(event), lambda: service.do_all(event, keep=True),
                         lambda: service.aloud(event), lambda: service.permit(event, event), lambda: service.secret(event, event),
                         lambda: service.outside(event), lambda: service.knows(event, event), lambda: service.heard(event),
                         lambda: replayed((service.log()[0], event))):
                with self.assertRaises(MumError):
                    call()
            self.same([is_log((service.log()[0], event)), event in service, service == event], [False, False, False])
        self.same(repr(events), before)

    def test_errors_keep_the_very_objects(self):
        service = Service(SCENE, W[6])
        event, asker, askers, world = ['aloud', SUM], ['x'], ['x', 'y'], [(2,), (0,)]
        for call, name, thing in ((lambda: service.go(event), 'event', event), (lambda: service.do_all(event), 'event', event),
                                  (lambda: service.heard(asker), 'asker', asker),
                                  (lambda: service.next_permit(asker, SUM), 'asker', asker),
                                  (lambda: service.knows(askers, TOP[0]), 'asker', askers),
                                  (lambda: service.knows((askers,), TOP[0]), 'asker', askers),
                                  (lambda: Service(SCENE, W[6], rule=world), 'at', world),
                                  (lambda: chosen(service.hall, SUM, world), 'at', world)):
            with self.assertRaises(MumError) as caught:
                call()
            self.assertIs(getattr(caught.exception, name), thing)

    def test_lists_belong_to_the_caller(self):
        service = Service(SCENE, W[6])
        rows, lines = service.table(), log_lines(service.log())
        kept = [list(rows), list(lines)]
        rows.append('x')
        rows[0] = ''
        lines.clear()
        self.same([service.table(), log_lines(service.log())], kept)
        self.same([rows is service.table(), lines is log_lines(service.log())], [False, False])

    def test_two_desks(self):
        start = '\n'.join(log_lines(Service(SCENE, W[6]).log()))
        one, other = Desk(), Desk()
        self.same([one.say(start), other.say(start), one.say('few 0'), one.say('count'), other.say('count'), other.counts()],
                  ['ok', 'ok', 'ok', '1', '0', (2, 2)])

    def test_two_services(self):
        one, other = Service(SCENE, W[6]), Service(SCENE, W[6])
        one.aloud(SUM)
        self.same([len(one), len(other), one.counts(), other.counts(), one == other], [1, 0, (1, 1), (0, 0), False])
        other.aloud(SUM)
        self.same([one == other, one is other], [True, False])
