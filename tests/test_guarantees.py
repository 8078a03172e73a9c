"""The guarantees of point 8 over the whole program; those of single modules stand with the tests of these."""

from itertools import product

from mumhouse.finest import finest_groupings
from mumhouse.halls import Hall
from mumhouse.mumness import is_mum
from mumhouse.permitting import finest_permits, is_mum_alone
from mumhouse.ruling import alike_grouping, is_mum_aloud, plain_grouping, plain_leaks
from mumhouse.services import Service
from mumhouse.values import is_true, value_of
from mumhouse.whynot import needed_drops
from tests import reference
from tests.samples import ALWAYS, Case
from tests.slow_service import EventMaker
from tests.test_groupings import partitions, refines
from tests.test_operations import RULES


class GuaranteesTest(Case):
    def test_less_is_said_or_asked_for_and_all_stays_mum(self):
        # S2: coarser groupings, and more secrets, greater fews, more permits.
        maker = reference.HallMaker(251)
        for _ in range(40):
            hall, ask = maker.hall(2), maker.ask()
            values = reference.values(reference.plain(hall), ask)
            askers, statement = hall.scene[1], maker.random.choice(reference.STATEMENTS)
            if len(values) > 4:
                continue
            self.same(is_mum_aloud(hall, ask, (values,)), is_mum(hall))
            for asker in askers:
                self.same(is_mum_alone(hall, asker, ask, (values,)), is_mum(hall))
                mum = [some for some in partitions(values) if is_mum_alone(hall, asker, ask, some)]
                self.same(mum, [some for some in partitions(values) if any(refines(one, some) for one in mum)])
            more = [hall.with_secret(statement), hall.with_secret(ALWAYS, *askers), hall.with_few(hall.scene[3] + 1)]
            more += [hall.with_permit(asker, ask, some) for asker in askers for some in partitions(values)]
            if not is_mum(hall):
                self.same([is_mum(some) for some in more], [False] * len(more))

    def test_rules(self):
        # S3: the plain rule and the alike rule.
        maker = reference.HallMaker(252)
        for _ in range(60):
            hall, ask = maker.mum_hall(2), maker.ask()
            refused = [v for v in reference.values(reference.plain(hall), ask) if not is_mum(hall(ask, (v,)))]
            self.same(plain_leaks(hall, ask), refused != [] and not is_mum(hall(ask, tuple(refused))))
            self.assertTrue(set(map(tuple, [refused] if refused else [])) <= set(plain_grouping(hall, ask)))
            alike = alike_grouping(hall, ask)
            self.same(is_mum_aloud(hall, ask, alike), True)
            if len(alike) == 1:
                self.same(hall(ask, alike[0]) == hall, True)

    def test_permits_keep_all_secrets(self):
        # S6: permits that are given one after the other, in mum halls by the hall alone; each few hears what it may.
        maker = EventMaker(253)
        for _ in range(25):
            scene, worlds, _, rule, permits = maker.beginning(1)
            asks = [maker.maker.ask() for _ in range(3)]
            given = [(asker, ask) for asker in scene[1] for ask in asks]
            maker.random.shuffle(given)
            halls = {}
            for world in worlds:
                service = Service(scene, world, rule=rule, permits=permits)
                for asker, ask in given[:4 - len(permits)]:
                    service.permit(asker, ask)
                halls[world] = service.hall
            self.same(len({repr(hall.permits) for hall in halls.values()}), 1)
            self.keeps_all(halls[worlds[0]])

    def keeps_all(self, hall):
        house, _, secrets, _ = hall.scene
        for few in hall.fews():
            rows = [(ask, grouping) for asker, ask, grouping in hall.permits if asker in few]
            heard = {}
            for world in hall.worlds:
                groups = tuple(next(group for group in grouping if value_of(house, world, ask) in group) for ask,
                               grouping in rows)
                heard.setdefault(groups, []).append(world)
            for (statement, knowers), some in product(secrets, heard.values()):
                if not set(few) & set(knowers):
                    self.same(all(is_true(house, world, statement) for world in some), False)

    def test_whole_answers_and_drops(self):
        # S4 and S8: a value stands alone in all finest groupings exactly if whole answers are mum; so for permits.
        maker = reference.HallMaker(254)
        for _ in range(60):
            hall, ask = maker.mum_hall(2), maker.ask()
            values = reference.values(reference.plain(hall), ask)
            if len(values) > 5:
                continue
            whole = tuple((value,) for value in values)
            self.same(finest_groupings(hall, ask) == (whole,), needed_drops(hall, ask) == ())
            kept = tuple(secret for k, secret in enumerate(hall.scene[2]) if k not in needed_drops(hall, ask))
            there = Hall((*hall.scene[:2], kept, hall.scene[3]), hall.worlds, hall.permits)
            self.same(finest_groupings(there, ask), (whole,))
            for asker in hall.scene[1]:
                self.same(finest_permits(hall, asker, ask) == (whole,), is_mum_alone(hall, asker, ask, whole))

    def test_the_house_decides_by_the_hall_alone(self):
        # Point 7: what a rule would do does not depend on the true world.
        maker = EventMaker(255)
        for _ in range(20):
            scene, worlds, _, _, permits = maker.beginning(2)
            ask = maker.maker.ask()
            for rule in RULES:
                services = [Service(scene, world, rule=rule, permits=permits) for world in worlds]
                self.same(len({repr([service.next_grouping(ask), service.drops_needed(ask)]) for service in services}), 1)
                for asker in scene[1]:
                    self.same(len({service.next_permit(asker, ask) for service in services}), 1)
