"""The purser answers a list of calls on one ship."""

from cabinsgiven.changes import add_cabin, add_party, give_cabin, leave_ship, move_party
from cabinsgiven.changes import pay_class, shut_cabin, swap_parties, take_plan
from cabinsgiven.questions import tell_does, tell_most, tell_plan
from cabinsgiven.ship import Ship

CG_START = 0
CG_CABIN = 1
CG_PARTY = 2
CG_GIVE = 3
CG_LEAVE = 4
CG_SHUT = 5
CG_MOVE = 6
CG_SWAP = 7
CG_TAKE = 8
CG_PAY = 9
CG_DOES = 10
CG_MOST = 11

# How many numbers each call is handed, by the call's number.
HANDED = (0, 5, 3, 2, 1, 2, 2, 2, 0, 2, 2, 0, 0)


def answers(calls):
    told = []
    ship = Ship()
    at = 0
    while at < len(calls):
        call = calls[at]
        end = at + 1 + HANDED[call]
        answer = answer_call(ship, call, calls[at + 1:end])
        told.append(len(answer))
        told.extend(answer)
        at = end
    return told


def answer_call(ship, call, given):
    if call == CG_START:
        return [start_anew(ship)]
    if call <= CG_PAY:
        return [answer_change(ship, call, given)]
    return answer_question(ship, call, given)


def start_anew(ship):
    ship.cabins = []
    ship.parties = []
    return 0


def answer_change(ship, call, given):
    if call == CG_CABIN:
        return add_cabin(ship, given[0], given[1], given[2], given[3], given[4])
    if call == CG_PARTY:
        return add_party(ship, given[0], given[1], given[2])
    if call == CG_GIVE:
        return give_cabin(ship, given[0], given[1])
    if call == CG_LEAVE:
        return leave_ship(ship, given[0])
    if call == CG_SHUT:
        return shut_cabin(ship, given[0], given[1])
    if call == CG_MOVE:
        return move_party(ship, given[0], given[1])
    if call == CG_SWAP:
        return swap_parties(ship, given[0], given[1])
    if call == CG_TAKE:
        return take_plan(ship)
    return pay_class(ship, given[0], given[1])


def answer_question(ship, call, given):
    if call == CG_DOES:
        return tell_does(ship, given[0], given[1])
    if call == CG_MOST:
        return tell_most(ship)
    return tell_plan(ship)
