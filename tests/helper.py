"""Calls by their names, the answers to them one by one, and a second count of all that a ship is asked."""

import functools

from cabinsgiven.purser import answers

LARGEST = 4294967295

START = [0]
TAKE = [8]
MOST = [11]
PLAN = [12]
FREES = [19]
BETTER = [20]
SUMS = [21]
BACK = [22]
AGAIN = [23]
STATE = [24]

NAMES = """start cabin party give leave shut move swap take pay does most plan would choices beside who look see frees better
sums back again state""".split()


def cabin(deck, place, rank=0, berths=6, flat=1):
    return [1, deck, place, rank, berths, flat]


def party(many=1, rank=0, flat=0):
    return [2, many, rank, flat]


def give(p, k):
    return [3, p, k]


def leave(p):
    return [4, p]


def shut(k, out):
    return [5, k, out]


def move(p, k):
    return [6, p, k]


def swap(p, q):
    return [7, p, q]


def pay(p, rank):
    return [9, p, rank]


def does(p, k):
    return [10, p, k]


def would(p):
    return [13, p]


def choices(p):
    return [14, p]


def beside(k):
    return [15, k]


def who(k):
    return [16, k]


def look(p):
    return [17, p]


def see(k):
    return [18, k]


def flatten(calls):
    return [number for call in calls for number in call]


def split(numbers):
    found = []
    at = 0
    while at < len(numbers):
        end = at + 1 + numbers[at]
        if end > len(numbers):
            raise AssertionError("the last answer is cut off")
        found.append(numbers[at + 1:end])
        at = end
    return found


def told(calls):
    """The answers to a start and these calls, one list for each call, without the start's."""
    found = split(answers(flatten([START] + calls)))
    if len(found) != len(calls) + 1 or found[0] != [0]:
        raise AssertionError("not one answer for each call")
    return found[1:]


def last(calls):
    return told(calls)[-1]


def asks():
    """All that can be asked of every party and cabin there may be; cg_state comes first."""
    calls = [STATE, FREES, BETTER, SUMS, MOST, PLAN]
    for p in range(8):
        calls += [look(p), choices(p), would(p)] + [does(p, k) for k in range(12)]
    for k in range(12):
        calls += [see(k), who(k), beside(k)]
    return calls


def seen(calls):
    """What can be asked behind these calls: how many changes there are to take back and do again; all else."""
    state, *others = told(calls + asks())[len(calls):]
    return state[3:], [state[:3]] + others


def looks():
    """All that can be asked, and what shows behind each change that is done again or taken back."""
    glimpse = [STATE, FREES, BETTER, SUMS]
    return asks() + ([AGAIN] + glimpse) * 3 + ([BACK] + glimpse) * 31


def with_one_to_do_again(calls):
    for change in (party(), cabin(20, 499), leave(7)):
        if last(calls + [change])[0] >= 0:
            return calls + [change, BACK]
    raise AssertionError("no change is left")


def check_refused(case, calls, call, refusal):
    """The call is refused behind these calls, and all is as it was, the changes to take back and do again too."""
    for ahead in (calls, with_one_to_do_again(calls)):
        case.assertEqual(last(ahead + [call]), [refusal])
        case.assertEqual(told(ahead + [call] + looks())[len(ahead) + 1:], told(ahead + looks())[len(ahead):])


def without(wishes, k):
    return tuple(wish - {k} for wish in wishes)


@functools.lru_cache(maxsize=50000)
def most_of(wishes):
    """How many of these can be housed, by trying for each every cabin it wishes, and none."""
    if not wishes:
        return 0
    return max([most_of(wishes[1:])] + [1 + most_of(without(wishes[1:], k)) for k in wishes[0]])


def plan_of(wishes, liking):
    """The document's words, one by one: for each the cabin it gets, or None."""
    way = []
    while wishes:
        fit = [k for k in wishes[0] if 1 + most_of(without(wishes[1:], k)) == most_of(wishes)]
        way.append(min(fit, key=liking) if fit else None)
        wishes = without(wishes[1:], way[-1])
    return way


def housed(way):
    return len([k for k in way if k is not None])


def plan_answer(waiting, way):
    cabins = [0] * 8
    for p, k in zip(waiting, way):
        cabins[p] = 0 if k is None else k + 1
    return [housed(way)] + cabins


def bits(numbers):
    return sum(2 ** number for number in numbers)


class Plain:
    """A second count of all that a ship is asked.

    A change is kept as the deeds that it comes to; to take one back, all others are done anew from the start.
    A deed is one row of the cabins or parties, and the values that are written into it.
    """

    def __init__(self):
        self.calls = []
        self.due = []
        self.start()

    def answer(self, call):
        found = getattr(self, NAMES[call[0]])(*call[1:])
        if isinstance(found, tuple):
            found, deeds = found
            self.done.append(deeds)
            self.undone = []
            self.backs = min(30, self.backs + 1)
            self.do(deeds)
        self.calls.append(call)
        self.due.append(found if isinstance(found, list) else [found])
        return self.due[-1]

    def do(self, deeds):
        for rows, number, values in deeds:
            if number == len(rows):
                rows.append({})
            rows[number].update(values)

    def do_anew(self):
        self.cabins.clear()
        self.parties.clear()
        for deeds in self.done:
            self.do(deeds)

    def there(self, p):
        return p < len(self.parties) and not self.parties[p]["gone"]

    def has(self):
        return [who["cabin"] for who in self.parties]

    def housed(self):
        return [p for p in range(len(self.parties)) if self.has()[p] is not None]

    def waiting(self):
        return [p for p in range(len(self.parties)) if self.there(p) and self.has()[p] is None]

    def free(self):
        return [k for k in range(len(self.cabins)) if k not in self.has()]

    def fits(self, p, k):
        where, who = self.cabins[k], self.parties[p]
        return (where["out"] == 0 and where["berths"] >= who["many"] and where["rank"] >= who["rank"]
                and where["flat"] >= who["flat"])

    def fitting(self, p, cabins):
        return [k for k in cabins if self.fits(p, k)]

    def wishes(self, parties):
        return tuple(frozenset(self.fitting(p, self.free())) for p in parties)

    def liking(self, k):
        return (self.cabins[k]["rank"], self.cabins[k]["berths"], k)

    def way(self):
        return plan_of(self.wishes(self.waiting()), self.liking)

    def start(self):
        self.cabins, self.parties, self.done, self.undone, self.backs = [], [], [], [], 0
        return 0

    def cabin(self, deck, place, rank, berths, flat):
        if deck > 20 or place > 500 or rank > 3 or berths not in range(1, 7) or flat > 1:
            return -22
        if [deck, place] in [[row["deck"], row["place"]] for row in self.cabins]:
            return -22
        count = len(self.cabins)
        row = {"deck": deck, "place": place, "rank": rank, "berths": berths, "flat": flat, "out": 0}
        return -28 if count == 12 else (count, [(self.cabins, count, row)])

    def party(self, many, rank, flat):
        if many not in range(1, 7) or rank > 3 or flat > 1:
            return -22
        count = len(self.parties)
        row = {"many": many, "rank": rank, "flat": flat, "cabin": None, "gone": False}
        return -28 if count == 8 else (count, [(self.parties, count, row)])

    def give(self, p, k):
        if not self.there(p) or k >= len(self.cabins):
            return -2
        if p in self.housed():
            return -17
        if k not in self.free():
            return -16
        better = self.cabins[k]["rank"] > self.parties[p]["rank"]
        return (int(better), [(self.parties, p, {"cabin": k})]) if self.fits(p, k) else -33

    def leave(self, p):
        if not self.there(p):
            return -2
        return self.look(p)[3], [(self.parties, p, {"gone": True, "cabin": None})]

    def shut(self, k, out):
        if k >= len(self.cabins):
            return -2
        if out > 1:
            return -22
        if self.cabins[k]["out"] == out:
            return -17
        if out == 1 and k in self.has():
            return -16
        return len(self.free()), [(self.cabins, k, {"out": out})]

    def move(self, p, k):
        if not self.there(p) or k >= len(self.cabins):
            return -2
        if p not in self.housed():
            return -6
        if k not in self.free():
            return -16
        return (self.has()[p], [(self.parties, p, {"cabin": k})]) if self.fits(p, k) else -33

    def swap(self, p, q):
        if not self.there(p) or not self.there(q):
            return -2
        if p == q:
            return -22
        one, other = self.has()[p], self.has()[q]
        if one is None or other is None:
            return -6
        deeds = [(self.parties, p, {"cabin": other}), (self.parties, q, {"cabin": one})]
        return (0, deeds) if self.fits(p, other) and self.fits(q, one) else -33

    def take(self):
        way = self.way()
        deeds = [(self.parties, p, {"cabin": k}) for p, k in zip(self.waiting(), way)]
        return (housed(way), deeds) if way else -6

    def pay(self, p, rank):
        if not self.there(p):
            return -2
        paid = self.parties[p]["rank"]
        if rank > 3 or rank == paid:
            return -22
        if p in self.housed() and self.cabins[self.has()[p]]["rank"] < rank:
            return -33
        return paid, [(self.parties, p, {"rank": rank})]

    def does(self, p, k):
        if not self.there(p) or k >= len(self.cabins):
            return -2
        return [int(self.fits(p, k)), int(k in self.free())]

    def most(self):
        return [most_of(self.wishes(self.waiting())), len(self.waiting()), len(self.free())]

    def plan(self):
        return plan_answer(self.waiting(), self.way())

    def would(self, p):
        if not self.there(p):
            return -2
        if p in self.housed():
            return -17
        others = [q for q in self.waiting() if q != p]
        return most_of(self.wishes(self.waiting())) - most_of(self.wishes(others))

    def choices(self, p):
        if not self.there(p):
            return -2
        return self.some_cabins(self.fitting(p, range(len(self.cabins))))

    def beside(self, k):
        if k >= len(self.cabins):
            return -2
        where = [(row["deck"], row["place"]) for row in self.cabins]
        deck, place = where[k]
        return self.some_cabins([j for j, at in enumerate(where) if at in ((deck, place - 1), (deck, place + 1))])

    def some_cabins(self, cabins):
        return [len(cabins), bits(cabins), bits(k for k in cabins if k in self.free())]

    def who(self, k):
        if k >= len(self.cabins):
            return -2
        return [self.has().index(k), self.parties[self.has().index(k)]["many"]] if k in self.has() else -6

    def look(self, p):
        if not self.there(p):
            return -2
        who = self.parties[p]
        return [who["many"], who["rank"], who["flat"], 0 if who["cabin"] is None else who["cabin"] + 1]

    def see(self, k):
        if k >= len(self.cabins):
            return -2
        return [self.cabins[k][name] for name in ("rank", "berths", "deck", "place", "flat", "out")]

    def frees(self):
        return [len(self.free()), bits(self.free()), bits(self.waiting())]

    def better(self):
        found = [p for p in self.housed() if self.cabins[self.has()[p]]["rank"] > self.parties[p]["rank"]]
        return [len(found), bits(found)]

    def sums(self):
        return [len(self.housed()), sum(self.parties[p]["many"] for p in self.housed()),
                len([k for k in range(len(self.cabins)) if k in self.has()])]

    def back(self):
        if self.backs == 0:
            return -2
        self.backs -= 1
        self.undone.append(self.done.pop())
        self.do_anew()
        return self.backs

    def again(self):
        if not self.undone:
            return -2
        self.backs += 1
        self.done.append(self.undone.pop())
        self.do_anew()
        return len(self.undone)

    def state(self):
        gone = len([who for who in self.parties if who["gone"]])
        return [len(self.cabins), len(self.parties), gone, self.backs, len(self.undone)]
