"""Calls by their names, and the answers to them one by one."""

from cabinsgiven.purser import answers

LARGEST = 4294967295

START = [0]
TAKE = [8]
MOST = [11]
PLAN = [12]


def cabin(deck, place, rank=0, berths=6, flat=1):
    return [1, deck, place, rank, berths, flat]


def party(many=1, rank=0, flat=0):
    return [2, many, rank, flat]


def give(p, k):
    return [3, p, k]


def leave(p):
    return [4, p]


def shut(k, out):
    return [5, k, out]


def move(p, k):
    return [6, p, k]


def swap(p, q):
    return [7, p, q]


def pay(p, rank):
    return [9, p, rank]


def does(p, k):
    return [10, p, k]


def flatten(calls):
    return [number for call in calls for number in call]


def split(numbers):
    found = []
    at = 0
    while at < len(numbers):
        end = at + 1 + numbers[at]
        if end > len(numbers):
            raise AssertionError("the last answer is cut off")
        found.append(numbers[at + 1:end])
        at = end
    return found


def told(calls):
    """The answers to a start and these calls, one list for each call, without the start's."""
    found = split(answers(flatten([START] + calls)))
    if len(found) != len(calls) + 1 or found[0] != [0]:
        raise AssertionError("not one answer for each call")
    return found[1:]


def last(calls):
    return told(calls)[-1]


def looks():
    """Calls that bring all to light that the ship holds: the leaving tells each party's cabin."""
    calls = [MOST, PLAN]
    calls += [does(p, k) for p in range(8) for k in range(12)]
    calls += [pay(p, rank) for p in range(8) for rank in range(4)]
    calls += [shut(k, out) for k in range(12) for out in (1, 0)]
    calls += [leave(p) for p in range(8)]
    calls += [party() for p in range(9)]
    calls += [cabin(deck, place) for deck in range(4) for place in range(4)]
    return calls


def check_refused(case, calls, call, refusal):
    """The call is refused behind these calls, and all is as it was."""
    case.assertEqual(last(calls + [call]), [refusal])
    case.assertEqual(told(calls + [call] + looks())[len(calls) + 1:], told(calls + looks())[len(calls):])
