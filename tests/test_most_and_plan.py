"""Point 5 and what holds: cg_does, cg_most, cg_plan, beside a plain search through all ways."""

import itertools
import random
import unittest

from cabinsgiven.purser import answers
from tests.helper import MOST, PLAN, START, TAKE
from tests.helper import cabin, does, flatten, give, last, leave, party, shut, split, told


class Ship:
    """What a test knows of a ship: the calls that made it, and what stands behind them.

    A cabin is its class, its berths, 1 if it is without steps; a party its persons, its class, 1 if it needs that.
    """

    def __init__(self, cabins, parties):
        self.calls = [cabin(k % 3, k, *cabins[k]) for k in range(len(cabins))]
        self.calls += [party(*who) for who in parties]
        self.cabins = cabins
        self.parties = parties
        self.out = [False] * len(cabins)
        self.gone = [False] * len(parties)
        self.has = [None] * len(parties)

    def stir(self, source, times):
        """Some give, leave and shut; whether they were refused is taken from their answers."""
        for time in range(times):
            p = source.randrange(max(1, len(self.parties)))
            k = source.randrange(max(1, len(self.cabins)))
            kind = source.choice((give(p, k), give(p, k), leave(p), shut(k, 1), shut(k, 0)))
            self.calls.append(kind)
            if last(self.calls)[0] < 0:
                continue
            if kind[0] == 3:
                self.has[p] = k
            elif kind[0] == 4:
                self.gone[p] = True
                self.has[p] = None
            else:
                self.out[k] = kind[2] == 1

    def waiting(self):
        return [p for p in range(len(self.parties)) if not self.gone[p] and self.has[p] is None]

    def free(self):
        return [k for k in range(len(self.cabins)) if k not in self.has]

    def does(self, p, k):
        rank, berths, flat = self.cabins[k]
        many, paid, needs_flat = self.parties[p]
        return not self.out[k] and berths >= many and rank >= paid and (flat == 1 or needs_flat == 0)

    def liking(self, k):
        rank, berths, flat = self.cabins[k]
        return (rank, berths, k)


def all_ways(ship, waiting):
    """Every way to house those who wait: for each the cabin it has, or None."""
    choices = [[None] + [k for k in ship.free() if ship.does(p, k)] for p in waiting]
    for way in itertools.product(*choices):
        used = [k for k in way if k is not None]
        if len(used) == len(set(used)):
            yield way


def housed(way):
    return len([k for k in way if k is not None])


class Search:
    """The most there can be, by trying every cabin and none for each party; what was found once is remembered."""

    def __init__(self, ship, waiting):
        self.ship = ship
        self.waiting = waiting
        self.found = {}

    def most(self, at, left):
        if at == len(self.waiting):
            return 0
        if (at, left) not in self.found:
            ways = [self.most(at + 1, left)]
            ways += [1 + self.most(at + 1, left - {k}) for k in left if self.ship.does(self.waiting[at], k)]
            self.found[(at, left)] = max(ways)
        return self.found[(at, left)]

    def plan(self):
        """The document's words, one by one."""
        left = frozenset(self.ship.free())
        way = []
        for at, p in enumerate(self.waiting):
            most = self.most(at, left)
            fit = [k for k in left if self.ship.does(p, k) and 1 + self.most(at + 1, left - {k}) == most]
            way.append(min(fit, key=self.ship.liking) if fit else None)
            left = left - {way[-1]}
        return way


def plan_answer(waiting, way):
    cabins = [0] * 8
    for p, k in zip(waiting, way):
        cabins[p] = 0 if k is None else k + 1
    return [housed(way)] + cabins


def some_ship(source, cabins, parties, fuss):
    """The greater the fuss, the more the cabins and what the parties ask for differ."""
    return Ship([(source.randint(0, fuss), source.randint(1, 2 * fuss), source.randint(0, 1)) for k in range(cabins)],
                [(source.randint(1, 2 * fuss), source.randint(0, fuss), source.randint(0, 1)) for p in range(parties)])


def ships(seed, times, most_cabins, most_parties, fewest=0, stirs=6):
    source = random.Random(seed)
    for time in range(times):
        ship = some_ship(source, source.randint(fewest, most_cabins), source.randint(fewest, most_parties),
                         source.randint(1, 3))
        ship.stir(source, source.randint(0, stirs))
        yield ship


class Does(unittest.TestCase):
    def test_berths(self):
        calls = [cabin(0, 0, berths=2), party(1), party(2), party(3), does(0, 0), does(1, 0), does(2, 0)]
        self.assertEqual(told(calls)[-3:], [[1, 1], [1, 1], [0, 1]])

    def test_class(self):
        calls = [cabin(0, 0, rank=2), party(1, 1), party(1, 2), party(1, 3), does(0, 0), does(1, 0), does(2, 0)]
        self.assertEqual(told(calls)[-3:], [[1, 1], [1, 1], [0, 1]])

    def test_steps(self):
        calls = [cabin(0, 0, flat=0), cabin(0, 1, flat=1), party(1, 0, 0), party(1, 0, 1)]
        found = told(calls + [does(0, 0), does(0, 1), does(1, 0), does(1, 1)])
        self.assertEqual(found[-4:], [[1, 1], [1, 1], [0, 1], [1, 1]])

    def test_free_or_not_it_does_or_does_not(self):
        calls = [cabin(0, 0, 0, 1), party(), party(2), give(0, 0), does(0, 0), does(1, 0)]
        self.assertEqual(told(calls)[-2:], [[1, 0], [0, 0]])

    def test_every_party_and_cabin_of_many_ships(self):
        for ship in ships(1, 200, 12, 8):
            pairs = [(p, k) for p in range(len(ship.parties)) for k in range(len(ship.cabins)) if not ship.gone[p]]
            found = told(ship.calls + [does(p, k) for p, k in pairs])[len(ship.calls):]
            free = ship.free()
            self.assertEqual(found, [[int(ship.does(p, k)), int(k in free)] for p, k in pairs])


class Most(unittest.TestCase):
    def test_those_who_wait_and_the_cabins_that_are_free(self):
        calls = [cabin(0, 0), cabin(0, 1), cabin(0, 2), party(), party(), party(), give(0, 0), leave(1), shut(2, 1)]
        self.assertEqual(last(calls + [MOST]), [1, 1, 2])

    def test_one_gives_way_to_another(self):
        calls = [cabin(0, 0, 0, 1), cabin(0, 1, 0, 2), cabin(0, 2, 0, 3), party(1), party(2), party(3)]
        self.assertEqual(last(calls + [MOST]), [3, 3, 3])
        calls = [cabin(0, 0, 0, 3), cabin(0, 1, 0, 2), cabin(0, 2, 0, 1), party(1), party(2), party(3)]
        self.assertEqual(last(calls + [MOST]), [3, 3, 3])

    def test_more_parties_than_cabins_and_more_cabins_than_parties(self):
        eight = [party() for p in range(8)]
        twelve = [cabin(0, place) for place in range(12)]
        self.assertEqual(last(twelve + eight + [MOST]), [8, 8, 12])
        self.assertEqual(last(twelve[:3] + eight + [MOST]), [3, 8, 3])
        self.assertEqual(last(eight + [MOST]), [0, 8, 0])
        self.assertEqual(last(twelve + [MOST]), [0, 0, 12])

    def test_asking_changes_nothing(self):
        calls = [cabin(0, 0), cabin(0, 1, 1), party(), party(1, 1), MOST, PLAN, does(0, 0)]
        self.assertEqual(told(calls + calls[4:])[4:], told(calls)[4:] * 2)


class Plan(unittest.TestCase):
    def test_the_least_class_first(self):
        calls = [cabin(0, 0, 2, 1), cabin(0, 1, 1, 6), cabin(0, 2, 3, 1), party()]
        self.assertEqual(last(calls + [PLAN]), [1, 2, 0, 0, 0, 0, 0, 0, 0])

    def test_of_these_the_fewest_berths(self):
        calls = [cabin(0, 0, 1, 4), cabin(0, 1, 1, 3), cabin(0, 2, 1, 5), party()]
        self.assertEqual(last(calls + [PLAN]), [1, 2, 0, 0, 0, 0, 0, 0, 0])

    def test_of_these_the_least_number(self):
        calls = [cabin(9, 9, 1, 3), cabin(5, 5, 1, 3, 0), cabin(0, 0, 1, 3), party(1, 1, 1), party(1, 1, 0)]
        self.assertEqual(last(calls + [PLAN]), [2, 1, 2, 0, 0, 0, 0, 0, 0])

    def test_steps_are_not_looked_at_among_those_that_do(self):
        calls = [cabin(0, 0, 0, 2, 1), cabin(0, 1, 0, 2, 0), party()]
        self.assertEqual(last(calls + [PLAN]), [1, 1, 0, 0, 0, 0, 0, 0, 0])

    def test_one_leaves_the_cabin_that_another_behind_it_needs(self):
        calls = [cabin(0, 0, 0, 1, 1), cabin(0, 1, 3, 6, 0), party(1, 0, 0), party(1, 0, 1)]
        self.assertEqual(last(calls + [PLAN]), [2, 2, 1, 0, 0, 0, 0, 0, 0])

    def test_of_two_for_one_cabin_the_one_of_the_lesser_number(self):
        calls = [cabin(0, 0), party(), party()]
        self.assertEqual(last(calls + [PLAN]), [1, 1, 0, 0, 0, 0, 0, 0, 0])

    def test_only_those_who_wait(self):
        calls = [cabin(0, k) for k in range(12)] + [party() for p in range(8)] + [give(0, 3), leave(2), shut(1, 1)]
        self.assertEqual(last(calls + [PLAN]), [6, 0, 1, 0, 3, 5, 6, 7, 8])

    def test_nobody_waits(self):
        self.assertEqual(last([cabin(0, 0), PLAN]), [0] * 9)

    def test_the_eighth_party_and_the_twelfth_cabin(self):
        calls = [cabin(0, k, 0, 1) for k in range(11)] + [cabin(1, 0, 0, 6)] + [party(2) for p in range(7)]
        calls += [leave(p) for p in range(7)] + [party(6)]
        self.assertEqual(last(calls + [PLAN]), [1, 0, 0, 0, 0, 0, 0, 0, 12])


class BesideASearch(unittest.TestCase):
    def check(self, ship, waiting, way):
        """Most, plan and take behind the ship's calls, then what the leaving tells of each party's cabin."""
        there = [p for p in range(len(ship.parties)) if not ship.gone[p]]
        found = told(ship.calls + [MOST, PLAN, TAKE, MOST, PLAN] + [leave(p) for p in there])[len(ship.calls):]
        free = len(ship.free())
        self.assertEqual(found[0], [housed(way), len(waiting), free])
        self.assertEqual(found[1], plan_answer(waiting, way))
        self.assertEqual(found[2], [housed(way) if waiting else -6])
        self.assertEqual(found[3], [0, len(waiting) - housed(way), free - housed(way)])
        self.assertEqual(found[4], [0] * 9)
        has = list(ship.has)
        for p, k in zip(waiting, way):
            has[p] = k
        self.assertEqual(found[5:], [[0 if has[p] is None else has[p] + 1] for p in there])

    def test_all_ways_one_by_one_on_small_ships(self):
        for ship in ships(2, 1500, 6, 4):
            waiting = ship.waiting()
            ways = list(all_ways(ship, waiting))
            most = max(housed(way) for way in ways)
            # Of the ways that house the most, the plan is that which each party in turn likes best.
            best = min((way for way in ways if housed(way) == most),
                       key=lambda way: [(1,) if k is None else (0, ship.liking(k)) for k in way])
            self.check(ship, waiting, best)

    def test_ships_of_every_size(self):
        for ship in ships(3, 1500, 12, 8):
            waiting = ship.waiting()
            self.check(ship, waiting, Search(ship, waiting).plan())

    def test_ships_of_eight_parties(self):
        for ship in ships(4, 500, 12, 8, fewest=8, stirs=1):
            waiting = ship.waiting()
            search = Search(ship, waiting)
            way = search.plan()
            self.assertEqual(housed(way), search.most(0, frozenset(ship.free())))
            self.check(ship, waiting, way)


class Long(unittest.TestCase):
    def rounds(self, seed):
        """Starts anew with 12 cabins and 8 parties again and again, 1000 calls in all; the answers that are due."""
        source = random.Random(seed)
        calls = []
        due = []
        while len(calls) + 28 <= 1000:
            ship = some_ship(source, 12, 8, 2)
            way = Search(ship, list(range(8))).plan()
            calls += [START] + ship.calls + [MOST, PLAN, TAKE, MOST, PLAN, leave(0), MOST]
            gone = 0 if way[0] is None else 1
            rest = Search(ship, [p for p in range(1, 8) if way[p] is None])
            free = [k for k in range(12) if k not in way]
            left = frozenset(free + way[:1]) - {None}
            due += [[0]] + [[k] for k in range(12)] + [[p] for p in range(8)]
            due += [[housed(way), 8, 12], plan_answer(range(8), way), [housed(way)], [0, 8 - housed(way), len(free)],
                    [0] * 9, [way[0] + 1 if gone else 0],
                    [rest.most(0, left), len(rest.waiting), len(free) + gone]]
        due += [[0]] * (1000 - len(calls))
        return calls + [START] * (1000 - len(calls)), due

    def test_a_thousand_calls_over_many_ships(self):
        calls, due = self.rounds(5)
        self.assertEqual(len(calls), 1000)
        self.assertEqual(split(answers(flatten(calls))), due)

    def test_a_thousand_calls_over_one_ship(self):
        ship = Ship([(k % 3, 1 + k % 5, k % 2) for k in range(12)],
                    [(1 + p % 4, p % 3, p % 2) for p in range(7)] + [(6, 3, 1)])
        calls = [START] + ship.calls + [MOST, PLAN] * 244 + [TAKE] + [MOST, PLAN] * 245
        self.assertEqual(len(calls), 1000)
        way = Search(ship, list(range(8))).plan()
        count = housed(way)
        due = [[count, 8, 12], plan_answer(range(8), way)] * 244 + [[count]]
        due += [[0, 8 - count, 12 - count], [0] * 9] * 245
        self.assertEqual(split(answers(flatten(calls)))[21:], due)

    def test_a_thousand_calls_most_of_them_take(self):
        setup = [START] + [cabin(0, k, 2, 5) for k in range(12)] + [party(5, 2, 1) for p in range(7)] + [party(6)]
        calls = setup + [TAKE] * 979
        found = split(answers(flatten(calls)))[21:]
        self.assertEqual(found, [[7]] + [[0]] * 978)
