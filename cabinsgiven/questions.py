"""The calls that only ask: the number that's answered first, and behind it the numbers of out."""

from cabinsgiven.housing import most_of, others, plan_of, wish_of
from cabinsgiven.refusals import ALREADY_SO, NOBODY, NOT_THERE

PLAN_LENGTH = 8


def bits_of(numbers):
    return sum([1 << number for number in numbers])


# No cabin is told by 0, so that each cabin is told by the number above its own.
def told_cabin(cabin):
    return 0 if cabin is None else cabin + 1


def tell_does(ship, p, k):
    if not ship.has_party(p) or not ship.has_cabin(k):
        return [NOT_THERE]
    return [1 if ship.does(p, k) else 0, 1 if ship.is_free(k) else 0]


def tell_most(ship):
    waiting = ship.waiting_parties()
    return [most_of(ship, waiting), len(waiting), len(ship.free_cabins())]


def tell_plan(ship):
    plan = plan_of(ship)
    return [len(plan)] + [told_cabin(plan.get(p)) for p in range(PLAN_LENGTH)]


def tell_would(ship, p):
    if not ship.has_party(p):
        return [NOT_THERE]
    if not ship.waits(p):
        return [ALREADY_SO]
    waiting = ship.waiting_parties()
    return [most_of(ship, waiting) - most_of(ship, others(waiting, p))]


def tell_choices(ship, p):
    if not ship.has_party(p):
        return [NOT_THERE]
    doing = wish_of(ship, p, ship.all_cabins())
    return [len(doing), bits_of(doing), bits_of(ship.free_among(doing))]


def tell_beside(ship, k):
    if not ship.has_cabin(k):
        return [NOT_THERE]
    beside = [other for other in ship.all_cabins() if ship.is_beside(k, other)]
    return [len(beside), bits_of(beside), bits_of(ship.free_among(beside))]


def tell_who(ship, k):
    if not ship.has_cabin(k):
        return [NOT_THERE]
    if ship.is_free(k):
        return [NOBODY]
    p = ship.holder_of(k)
    return [p, ship.parties[p].many]


def tell_look(ship, p):
    if not ship.has_party(p):
        return [NOT_THERE]
    party = ship.parties[p]
    return [party.many, party.rank, party.flat, told_cabin(party.cabin)]


def tell_see(ship, k):
    if not ship.has_cabin(k):
        return [NOT_THERE]
    cabin = ship.cabins[k]
    return [cabin.rank, cabin.berths, cabin.deck, cabin.place, cabin.flat, cabin.out]


def tell_frees(ship):
    free = ship.free_cabins()
    return [len(free), bits_of(free), bits_of(ship.waiting_parties())]


def tell_better(ship):
    better = [p for p in ship.housed_parties() if ship.is_better(p)]
    return [len(better), bits_of(better)]


def tell_sums(ship):
    housed = ship.housed_parties()
    persons = sum([ship.parties[p].many for p in housed])
    return [len(housed), persons, len(ship.cabins) - len(ship.free_cabins())]


def tell_state(book):
    ship = book.ship
    gone = [party for party in ship.parties if party.gone]
    return [len(ship.cabins), len(ship.parties), len(gone), len(book.earlier), len(book.later)]
