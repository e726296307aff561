"""Point 5 and what holds: cg_does, cg_most, cg_plan, cg_would, beside a plain search through all ways."""

import itertools
import random
import unittest

from cabinsgiven.purser import answers
from tests.helper import AGAIN, BACK, LARGEST, MOST, PLAN, START, TAKE, Plain
from tests.helper import cabin, check_refused, does, flatten, give, housed, last, leave, most_of, party, plan_answer, shut
from tests.helper import split, told, would


def all_ways(ship, waiting):
    """Every way to house these: for each the cabin it has, or None."""
    for way in itertools.product(*[[None] + ship.fitting(p, ship.free()) for p in waiting]):
        used = [k for k in way if k is not None]
        if len(used) == len(set(used)):
            yield way


def ship_of(cabins, parties):
    """A cabin is its class, its berths, 1 if it is without steps; a party its persons, its class, 1 if it needs that."""
    ship = Plain()
    for k in range(len(cabins)):
        ship.answer(cabin(k % 3, k, *cabins[k]))
    for who in parties:
        ship.answer(party(*who))
    return ship


def some_ship(source, cabins, parties, fuss):
    """The greater the fuss, the more the cabins and what the parties ask for differ."""
    return ship_of([(source.randint(0, fuss), source.randint(1, 2 * fuss), source.randint(0, 1)) for k in range(cabins)],
                   [(source.randint(1, 2 * fuss), source.randint(0, fuss), source.randint(0, 1)) for p in range(parties)])


def stir(ship, source, times):
    for time in range(times):
        p = source.randrange(max(1, len(ship.parties)))
        k = source.randrange(max(1, len(ship.cabins)))
        ship.answer(source.choice((give(p, k), give(p, k), leave(p), shut(k, 1), shut(k, 0))))


def ships(seed, times, most_cabins, most_parties, fewest=0, stirs=6):
    source = random.Random(seed)
    for time in range(times):
        ship = some_ship(source, source.randint(fewest, most_cabins), source.randint(fewest, most_parties),
                         source.randint(1, 3))
        stir(ship, source, source.randint(0, stirs))
        yield ship


class Does(unittest.TestCase):
    def test_berths(self):
        calls = [cabin(0, 0, berths=2), party(1), party(2), party(3), does(0, 0), does(1, 0), does(2, 0)]
        self.assertEqual(told(calls)[-3:], [[1, 1], [1, 1], [0, 1]])

    def test_class(self):
        calls = [cabin(0, 0, rank=2), party(1, 1), party(1, 2), party(1, 3), does(0, 0), does(1, 0), does(2, 0)]
        self.assertEqual(told(calls)[-3:], [[1, 1], [1, 1], [0, 1]])

    def test_steps(self):
        calls = [cabin(0, 0, flat=0), cabin(0, 1, flat=1), party(1, 0, 0), party(1, 0, 1)]
        found = told(calls + [does(0, 0), does(0, 1), does(1, 0), does(1, 1)])
        self.assertEqual(found[-4:], [[1, 1], [1, 1], [0, 1], [1, 1]])

    def test_free_or_not_it_does_or_does_not(self):
        calls = [cabin(0, 0, 0, 1), party(), party(2), give(0, 0), does(0, 0), does(1, 0)]
        self.assertEqual(told(calls)[-2:], [[1, 0], [0, 0]])

    def test_every_party_and_cabin_of_many_ships(self):
        for ship in ships(1, 200, 12, 8):
            pairs = [(p, k) for p in range(8) for k in range(12) if ship.there(p) and k < len(ship.cabins)]
            found = told(ship.calls + [does(p, k) for p, k in pairs])[len(ship.calls):]
            self.assertEqual(found, [[int(ship.fits(p, k)), int(k in ship.free())] for p, k in pairs])


class Most(unittest.TestCase):
    def test_those_who_wait_and_the_cabins_that_are_free(self):
        calls = [cabin(0, 0), cabin(0, 1), cabin(0, 2), party(), party(), party(), give(0, 0), leave(1), shut(2, 1)]
        self.assertEqual(last(calls + [MOST]), [1, 1, 2])

    def test_one_gives_way_to_another(self):
        calls = [cabin(0, 0, 0, 1), cabin(0, 1, 0, 2), cabin(0, 2, 0, 3), party(1), party(2), party(3)]
        self.assertEqual(last(calls + [MOST]), [3, 3, 3])
        calls = [cabin(0, 0, 0, 3), cabin(0, 1, 0, 2), cabin(0, 2, 0, 1), party(1), party(2), party(3)]
        self.assertEqual(last(calls + [MOST]), [3, 3, 3])

    def test_more_parties_than_cabins_and_more_cabins_than_parties(self):
        eight = [party() for p in range(8)]
        twelve = [cabin(0, place) for place in range(12)]
        self.assertEqual(last(twelve + eight + [MOST]), [8, 8, 12])
        self.assertEqual(last(twelve[:3] + eight + [MOST]), [3, 8, 3])
        self.assertEqual(last(eight + [MOST]), [0, 8, 0])
        self.assertEqual(last(twelve + [MOST]), [0, 0, 12])

    def test_asking_changes_nothing(self):
        calls = [cabin(0, 0), cabin(0, 1, 1), party(), party(1, 1), MOST, PLAN, does(0, 0)]
        self.assertEqual(told(calls + calls[4:])[4:], told(calls)[4:] * 2)


class Plan(unittest.TestCase):
    def test_the_least_class_first(self):
        calls = [cabin(0, 0, 2, 1), cabin(0, 1, 1, 6), cabin(0, 2, 3, 1), party()]
        self.assertEqual(last(calls + [PLAN]), [1, 2, 0, 0, 0, 0, 0, 0, 0])

    def test_of_these_the_fewest_berths(self):
        calls = [cabin(0, 0, 1, 4), cabin(0, 1, 1, 3), cabin(0, 2, 1, 5), party()]
        self.assertEqual(last(calls + [PLAN]), [1, 2, 0, 0, 0, 0, 0, 0, 0])

    def test_of_these_the_least_number(self):
        calls = [cabin(9, 9, 1, 3), cabin(5, 5, 1, 3, 0), cabin(0, 0, 1, 3), party(1, 1, 1), party(1, 1, 0)]
        self.assertEqual(last(calls + [PLAN]), [2, 1, 2, 0, 0, 0, 0, 0, 0])

    def test_steps_are_not_looked_at_among_those_that_do(self):
        calls = [cabin(0, 0, 0, 2, 1), cabin(0, 1, 0, 2, 0), party()]
        self.assertEqual(last(calls + [PLAN]), [1, 1, 0, 0, 0, 0, 0, 0, 0])

    def test_one_leaves_the_cabin_that_another_behind_it_needs(self):
        calls = [cabin(0, 0, 0, 1, 1), cabin(0, 1, 3, 6, 0), party(1, 0, 0), party(1, 0, 1)]
        self.assertEqual(last(calls + [PLAN]), [2, 2, 1, 0, 0, 0, 0, 0, 0])

    def test_of_two_for_one_cabin_the_one_of_the_lesser_number(self):
        calls = [cabin(0, 0), party(), party()]
        self.assertEqual(last(calls + [PLAN]), [1, 1, 0, 0, 0, 0, 0, 0, 0])

    def test_only_those_who_wait(self):
        calls = [cabin(0, k) for k in range(12)] + [party() for p in range(8)] + [give(0, 3), leave(2), shut(1, 1)]
        self.assertEqual(last(calls + [PLAN]), [6, 0, 1, 0, 3, 5, 6, 7, 8])

    def test_nobody_waits(self):
        self.assertEqual(last([cabin(0, 0), PLAN]), [0] * 9)

    def test_the_eighth_party_and_the_twelfth_cabin(self):
        calls = [cabin(0, k, 0, 1) for k in range(11)] + [cabin(1, 0, 0, 6)] + [party(2) for p in range(7)]
        calls += [leave(p) for p in range(7)] + [party(6)]
        self.assertEqual(last(calls + [PLAN]), [1, 0, 0, 0, 0, 0, 0, 0, 12])


class BesideASearch(unittest.TestCase):
    def check(self, ship, waiting, way):
        """Most, plan and take behind the ship's calls, then what the leaving tells of each party's cabin."""
        there = [p for p in range(8) if ship.there(p)]
        found = told(ship.calls + [MOST, PLAN, TAKE, MOST, PLAN] + [leave(p) for p in there])[len(ship.calls):]
        free = len(ship.free())
        self.assertEqual(found[0], [housed(way), len(waiting), free])
        self.assertEqual(found[1], plan_answer(waiting, way))
        self.assertEqual(found[2], [housed(way) if waiting else -6])
        self.assertEqual(found[3], [0, len(waiting) - housed(way), free - housed(way)])
        self.assertEqual(found[4], [0] * 9)
        has = ship.has()
        for p, k in zip(waiting, way):
            has[p] = k
        self.assertEqual(found[5:], [[0 if has[p] is None else has[p] + 1] for p in there])

    def test_all_ways_one_by_one_on_small_ships(self):
        for ship in ships(2, 1500, 6, 4):
            waiting = ship.waiting()
            ways = list(all_ways(ship, waiting))
            most = max(housed(way) for way in ways)
            # Of the ways that house the most, the plan is that which each party in turn likes best.
            best = min((way for way in ways if housed(way) == most),
                       key=lambda way: [(1,) if k is None else (0, ship.liking(k)) for k in way])
            self.check(ship, waiting, best)

    def test_ships_of_every_size(self):
        for ship in ships(3, 1500, 12, 8):
            self.check(ship, ship.waiting(), ship.way())

    def test_ships_of_eight_parties(self):
        for ship in ships(4, 500, 12, 8, fewest=8, stirs=1):
            self.assertEqual(housed(ship.way()), most_of(ship.wishes(ship.waiting())))
            self.check(ship, ship.waiting(), ship.way())


class Would(unittest.TestCase):
    def test_one_more_or_none(self):
        calls = [cabin(0, 0), party(), would(0), party(), would(0), would(1), cabin(0, 1), would(0), would(1)]
        self.assertEqual(told(calls), [[0], [0], [1], [1], [0], [0], [1], [1], [1]])

    def test_no_cabin_does_for_it(self):
        for calls in ([party()], [cabin(0, 0, 0, 1), party(2)], [cabin(0, 0, 1), party(1, 2)],
                      [cabin(0, 0, flat=0), party(1, 0, 1)], [cabin(0, 0), party(), shut(0, 1)]):
            with self.subTest(calls=calls):
                self.assertEqual(last(calls + [would(0)]), [0])

    def test_others_may_give_way_to_it(self):
        calls = [cabin(0, 0, 0, 1), cabin(0, 1, 0, 2), cabin(0, 2, 0, 3), party(1), party(1), party(3)]
        self.assertEqual(told(calls + [would(0), would(1), would(2)])[-3:], [[1], [1], [1]])

    def test_of_three_for_two_cabins_only_who_asks_for_the_other_one_counts(self):
        calls = [cabin(0, 0, 3), cabin(0, 1, 0), party(1, 3), party(1, 3), party(1, 0)]
        self.assertEqual(told(calls + [would(0), would(1), would(2)])[-3:], [[0], [0], [1]])

    def test_only_those_who_wait_and_what_is_free(self):
        calls = [cabin(0, 0), cabin(0, 1), party(), party(), party(), would(2), give(0, 0), would(2), leave(1), would(2)]
        self.assertEqual(told(calls)[5:], [[0], [0], [0], [0], [1]])

    def test_the_eighth_party(self):
        calls = [cabin(0, k) for k in range(12)] + [party() for p in range(8)]
        self.assertEqual(last(calls + [would(7)]), [1])
        self.assertEqual(last(calls[5:] + [would(7)]), [0])

    def test_the_party_has_one(self):
        check_refused(self, [cabin(0, 0), party(), give(0, 0)], would(0), -17)
        check_refused(self, [cabin(0, 0), party(), TAKE], would(0), -17)

    def test_no_such_party_or_one_that_is_gone(self):
        for p in (1, 2, 3, 8, LARGEST):
            with self.subTest(p=p):
                check_refused(self, [cabin(0, 0), party(), party(), give(1, 0), leave(1)], would(p), -2)

    def test_asking_changes_nothing(self):
        calls = [cabin(0, 0), party(), party(), BACK, would(0), would(0)]
        self.assertEqual(told(calls + [MOST, AGAIN, MOST])[4:], [[1], [1], [1, 1, 1], [0], [1, 2, 1]])

    def check(self, ship, most):
        """Of each party that waits, beside the most of all who wait and of all but it."""
        waiting = ship.waiting()
        found = told(ship.calls + [would(p) for p in waiting])[len(ship.calls):]
        due = [most(ship, waiting) - most(ship, [q for q in waiting if q != p]) for p in waiting]
        self.assertEqual(found, [[number] for number in due])
        return due

    def test_all_ways_one_by_one_on_small_ships(self):
        due = []
        for ship in ships(6, 600, 6, 4):
            due += self.check(ship, lambda ship, some: max(housed(way) for way in all_ways(ship, some)))
        self.assertEqual(set(due), {0, 1})

    def test_ships_of_every_size(self):
        due = []
        for ship in ships(7, 1000, 12, 8):
            due += self.check(ship, lambda ship, some: most_of(ship.wishes(some)))
        self.assertEqual(set(due), {0, 1})

    def test_ships_of_eight_parties(self):
        due = []
        for ship in ships(8, 300, 12, 8, fewest=8, stirs=8):
            due += self.check(ship, lambda ship, some: most_of(ship.wishes(some)))
        self.assertEqual(set(due), {0, 1})


class Long(unittest.TestCase):
    def rounds(self, seed):
        """Starts anew with 12 cabins and 8 parties again and again, 1000 calls in all; the answers that are due."""
        source = random.Random(seed)
        calls = []
        due = []
        while len(calls) + 28 <= 1000:
            ship = some_ship(source, 12, 8, 2)
            for call in (MOST, PLAN, TAKE, MOST, PLAN, leave(0), MOST):
                ship.answer(call)
            calls += [START] + ship.calls
            due += [[0]] + ship.due
        due += [[0]] * (1000 - len(calls))
        return calls + [START] * (1000 - len(calls)), due

    def test_a_thousand_calls_over_many_ships(self):
        calls, due = self.rounds(5)
        self.assertEqual(len(calls), 1000)
        self.assertEqual(split(answers(flatten(calls))), due)

    def test_a_thousand_calls_over_one_ship(self):
        ship = ship_of([(k % 3, 1 + k % 5, k % 2) for k in range(12)],
                       [(1 + p % 4, p % 3, p % 2) for p in range(7)] + [(6, 3, 1)])
        calls = [START] + ship.calls + [MOST, PLAN] * 244 + [TAKE] + [MOST, PLAN] * 245
        self.assertEqual(len(calls), 1000)
        count = housed(ship.way())
        due = [[count, 8, 12], plan_answer(range(8), ship.way())] * 244 + [[count]]
        due += [[0, 8 - count, 12 - count], [0] * 9] * 245
        self.assertEqual(split(answers(flatten(calls)))[21:], due)

    def test_a_thousand_calls_most_of_them_take(self):
        setup = [START] + [cabin(0, k, 2, 5) for k in range(12)] + [party(5, 2, 1) for p in range(7)] + [party(6)]
        calls = setup + [TAKE] * 979
        found = split(answers(flatten(calls)))[21:]
        self.assertEqual(found, [[7]] + [[0]] * 978)
