"""The calls that only ask: the number that's answered first, and behind it the numbers of out."""

from cabinsgiven.housing import most_housed, plan_of, waiting_wishes
from cabinsgiven.refusals import NOT_THERE

PLAN_LENGTH = 8


def tell_does(ship, p, k):
    if not ship.has_party(p) or not ship.has_cabin(k):
        return [NOT_THERE]
    return [1 if ship.does(p, k) else 0, 1 if ship.is_free(k) else 0]


def tell_most(ship):
    return [most_housed(waiting_wishes(ship)), len(ship.waiting_parties()), len(ship.free_cabins())]


def tell_plan(ship):
    plan = plan_of(ship)
    return [len(plan)] + [plan[p] + 1 if p in plan else 0 for p in range(PLAN_LENGTH)]
