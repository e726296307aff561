"""The ship: its cabins, its parties, and what can be said of one or two of them."""


class Cabin:
    def __init__(self, deck, place, rank, berths, flat):
        self.deck = deck
        self.place = place
        self.rank = rank
        self.berths = berths
        self.flat = flat
        self.out = 0


class Party:
    def __init__(self, many, rank, flat):
        self.many = many
        self.rank = rank
        self.flat = flat
        self.cabin = None
        self.gone = False


class Ship:
    # A party that is gone stays in the list: it counts among those that there have been.
    def __init__(self):
        self.cabins = []
        self.parties = []

    def has_cabin(self, k):
        return k < len(self.cabins)

    def has_party(self, p):
        return p < len(self.parties) and not self.parties[p].gone

    def is_at(self, deck, place):
        for cabin in self.cabins:
            if cabin.deck == deck and cabin.place == place:
                return True
        return False

    def is_beside(self, k, other):
        one = self.cabins[k]
        two = self.cabins[other]
        return one.deck == two.deck and abs(one.place - two.place) == 1

    def holder_of(self, k):
        for p in range(len(self.parties)):
            if self.parties[p].cabin == k:
                return p
        return None

    def is_free(self, k):
        return self.holder_of(k) is None

    def all_cabins(self):
        return list(range(len(self.cabins)))

    def free_among(self, cabins):
        return [k for k in cabins if self.is_free(k)]

    def free_cabins(self):
        return self.free_among(self.all_cabins())

    def waits(self, p):
        return self.has_party(p) and self.parties[p].cabin is None

    def waiting_parties(self):
        return [p for p in range(len(self.parties)) if self.waits(p)]

    def housed_parties(self):
        return [p for p in range(len(self.parties)) if self.parties[p].cabin is not None]

    def is_better(self, p):
        party = self.parties[p]
        return self.cabins[party.cabin].rank > party.rank

    def does(self, p, k):
        party = self.parties[p]
        cabin = self.cabins[k]
        if cabin.out == 1 or cabin.berths < party.many or cabin.rank < party.rank:
            return False
        return cabin.flat == 1 or party.flat == 0


def copy_of_cabin(cabin):
    other = Cabin(cabin.deck, cabin.place, cabin.rank, cabin.berths, cabin.flat)
    other.out = cabin.out
    return other


def copy_of_party(party):
    other = Party(party.many, party.rank, party.flat)
    other.cabin = party.cabin
    other.gone = party.gone
    return other


def copy_of_ship(ship):
    other = Ship()
    other.cabins = [copy_of_cabin(cabin) for cabin in ship.cabins]
    other.parties = [copy_of_party(party) for party in ship.parties]
    return other
