"""The calls that change the ship.

Each looks at every refusal, in the order in which they are told, before it changes anything.
"""

from cabinsgiven.housing import plan_of
from cabinsgiven.refusals import ALREADY_SO, DOES_NOT_DO, NOBODY, NO_MORE, NOT_AS_TOLD, NOT_FREE, NOT_THERE
from cabinsgiven.ship import Cabin, Party

MOST_CABINS = 12
MOST_PARTIES = 8
LAST_DECK = 20
LAST_PLACE = 500
BEST_CLASS = 3
MOST_BERTHS = 6


def add_cabin(ship, deck, place, rank, berths, flat):
    if deck > LAST_DECK or place > LAST_PLACE or rank > BEST_CLASS:
        return NOT_AS_TOLD
    if berths < 1 or berths > MOST_BERTHS or flat > 1:
        return NOT_AS_TOLD
    if ship.is_at(deck, place):
        return NOT_AS_TOLD
    if len(ship.cabins) == MOST_CABINS:
        return NO_MORE
    ship.cabins.append(Cabin(deck, place, rank, berths, flat))
    return len(ship.cabins) - 1


def add_party(ship, many, rank, flat):
    if many < 1 or many > MOST_BERTHS or rank > BEST_CLASS or flat > 1:
        return NOT_AS_TOLD
    if len(ship.parties) == MOST_PARTIES:
        return NO_MORE
    ship.parties.append(Party(many, rank, flat))
    return len(ship.parties) - 1


def give_cabin(ship, p, k):
    if not ship.has_party(p) or not ship.has_cabin(k):
        return NOT_THERE
    party = ship.parties[p]
    if party.cabin is not None:
        return ALREADY_SO
    if not ship.is_free(k):
        return NOT_FREE
    if not ship.does(p, k):
        return DOES_NOT_DO
    party.cabin = k
    return 1 if ship.is_better(p) else 0


def leave_ship(ship, p):
    if not ship.has_party(p):
        return NOT_THERE
    party = ship.parties[p]
    had = party.cabin
    party.gone = True
    party.cabin = None
    return 0 if had is None else had + 1


def shut_cabin(ship, k, out):
    if not ship.has_cabin(k):
        return NOT_THERE
    if out > 1:
        return NOT_AS_TOLD
    if ship.cabins[k].out == out:
        return ALREADY_SO
    if out == 1 and not ship.is_free(k):
        return NOT_FREE
    ship.cabins[k].out = out
    return len(ship.free_cabins())


def move_party(ship, p, k):
    if not ship.has_party(p) or not ship.has_cabin(k):
        return NOT_THERE
    party = ship.parties[p]
    if party.cabin is None:
        return NOBODY
    if not ship.is_free(k):
        return NOT_FREE
    if not ship.does(p, k):
        return DOES_NOT_DO
    had = party.cabin
    party.cabin = k
    return had


def swap_parties(ship, p, q):
    if not ship.has_party(p) or not ship.has_party(q):
        return NOT_THERE
    if p == q:
        return NOT_AS_TOLD
    one = ship.parties[p]
    other = ship.parties[q]
    if one.cabin is None or other.cabin is None:
        return NOBODY
    if not ship.does(p, other.cabin) or not ship.does(q, one.cabin):
        return DOES_NOT_DO
    had = one.cabin
    one.cabin = other.cabin
    other.cabin = had
    return 0


def take_plan(ship):
    if len(ship.waiting_parties()) == 0:
        return NOBODY
    plan = plan_of(ship)
    for p, cabin in plan.items():
        ship.parties[p].cabin = cabin
    return len(plan)


def pay_class(ship, p, rank):
    if not ship.has_party(p):
        return NOT_THERE
    party = ship.parties[p]
    if rank > BEST_CLASS or rank == party.rank:
        return NOT_AS_TOLD
    if party.cabin is not None and ship.cabins[party.cabin].rank < rank:
        return DOES_NOT_DO
    paid = party.rank
    party.rank = rank
    return paid
