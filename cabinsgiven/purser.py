"""The purser answers a list of calls on one ship."""

from cabinsgiven.book import Book
from cabinsgiven.changes import add_cabin, add_party, give_cabin, leave_ship, move_party
from cabinsgiven.changes import pay_class, shut_cabin, swap_parties, take_plan
from cabinsgiven.questions import tell_beside, tell_better, tell_choices, tell_does, tell_frees, tell_look, tell_most
from cabinsgiven.questions import tell_plan, tell_see, tell_state, tell_sums, tell_who, tell_would
from cabinsgiven.ship import copy_of_ship

CG_START = 0
CG_CABIN = 1
CG_PARTY = 2
CG_GIVE = 3
CG_LEAVE = 4
CG_SHUT = 5
CG_MOVE = 6
CG_SWAP = 7
CG_TAKE = 8
CG_PAY = 9
CG_DOES = 10
CG_MOST = 11
CG_PLAN = 12
CG_WOULD = 13
CG_CHOICES = 14
CG_BESIDE = 15
CG_WHO = 16
CG_LOOK = 17
CG_SEE = 18
CG_FREES = 19
CG_BETTER = 20
CG_SUMS = 21
CG_BACK = 22
CG_AGAIN = 23

# How many numbers each call is handed, by the call's number.
HANDED = (0, 5, 3, 2, 1, 2, 2, 2, 0, 2, 2, 0, 0, 1, 1, 1, 1, 1, 1, 0, 0, 0, 0, 0, 0)


def answers(calls):
    told = []
    book = Book()
    at = 0
    while at < len(calls):
        call = calls[at]
        end = at + 1 + HANDED[call]
        answer = answer_call(book, call, calls[at + 1:end])
        told.append(len(answer))
        told.extend(answer)
        at = end
    return told


def answer_call(book, call, given):
    if call == CG_START:
        book.start_anew()
        return [0]
    if call <= CG_PAY:
        return [answer_change(book, call, given)]
    if call <= CG_PLAN:
        return ask_of_housing(book.ship, call, given)
    if call <= CG_SEE:
        return ask_of_one(book.ship, call, given[0])
    if call <= CG_SUMS:
        return ask_of_all(book.ship, call)
    return answer_by_book(book, call)


def answer_change(book, call, given):
    changed = copy_of_ship(book.ship)
    answer = change_ship(changed, call, given)
    if answer >= 0:
        book.enter_change(changed)
    return answer


def change_ship(ship, call, given):
    if call == CG_CABIN:
        return add_cabin(ship, given[0], given[1], given[2], given[3], given[4])
    if call == CG_PARTY:
        return add_party(ship, given[0], given[1], given[2])
    if call == CG_GIVE:
        return give_cabin(ship, given[0], given[1])
    if call == CG_LEAVE:
        return leave_ship(ship, given[0])
    if call == CG_SHUT:
        return shut_cabin(ship, given[0], given[1])
    if call == CG_MOVE:
        return move_party(ship, given[0], given[1])
    if call == CG_SWAP:
        return swap_parties(ship, given[0], given[1])
    if call == CG_TAKE:
        return take_plan(ship)
    return pay_class(ship, given[0], given[1])


def ask_of_housing(ship, call, given):
    if call == CG_DOES:
        return tell_does(ship, given[0], given[1])
    if call == CG_MOST:
        return tell_most(ship)
    return tell_plan(ship)


def ask_of_one(ship, call, number):
    if call == CG_WOULD:
        return tell_would(ship, number)
    if call == CG_CHOICES:
        return tell_choices(ship, number)
    if call == CG_BESIDE:
        return tell_beside(ship, number)
    if call == CG_WHO:
        return tell_who(ship, number)
    if call == CG_LOOK:
        return tell_look(ship, number)
    return tell_see(ship, number)


def ask_of_all(ship, call):
    if call == CG_FREES:
        return tell_frees(ship)
    if call == CG_BETTER:
        return tell_better(ship)
    return tell_sums(ship)


def answer_by_book(book, call):
    if call == CG_BACK:
        return [book.take_back()]
    if call == CG_AGAIN:
        return [book.do_again()]
    return tell_state(book)
