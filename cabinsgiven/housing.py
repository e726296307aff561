"""How many can be housed, and the plan.

Here a party is its wish: the list of the cabins that are free and do for it, the one it is to get rather first.
"""


def most_housed(wishes):
    holders = {}
    housed = 0
    for party in range(len(wishes)):
        if find_cabin(party, wishes, holders, {}):
            housed += 1
    return housed


# A cabin with a holder can still be had if its holder finds another one.
# What was tried once is not tried again, so the search comes to an end.
def find_cabin(party, wishes, holders, tried):
    for cabin in wishes[party]:
        if cabin in tried:
            continue
        tried[cabin] = True
        if cabin not in holders or find_cabin(holders[cabin], wishes, holders, tried):
            holders[cabin] = party
            return True
    return False


def others(wish, cabin):
    return [k for k in wish if k != cabin]


def without_cabin(wishes, cabin):
    return [others(wish, cabin) for wish in wishes]


def best_cabin(wish, behind):
    most = most_housed([wish] + behind)
    for cabin in wish:
        if 1 + most_housed(without_cabin(behind, cabin)) == most:
            return cabin
    return None


def planned_cabins(wishes):
    planned = []
    left = wishes
    while len(left) > 0:
        behind = left[1:]
        cabin = best_cabin(left[0], behind)
        planned.append(cabin)
        left = without_cabin(behind, cabin)
    return planned


# The least class first, then the fewest berths: so no good cabin goes to who'd be content with less.
def frugal_order(ship, cabins):
    return sorted(cabins, key=lambda k: (ship.cabins[k].rank, ship.cabins[k].berths, k))


def wish_of(ship, p, cabins):
    return [k for k in cabins if ship.does(p, k)]


def wishes_of(ship, parties):
    cabins = frugal_order(ship, ship.free_cabins())
    return [wish_of(ship, p, cabins) for p in parties]


def most_of(ship, parties):
    return most_housed(wishes_of(ship, parties))


def plan_of(ship):
    waiting = ship.waiting_parties()
    plan = {}
    for p, cabin in zip(waiting, planned_cabins(wishes_of(ship, waiting))):
        if cabin is not None:
            plan[p] = cabin
    return plan
