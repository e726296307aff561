"""The ship: its cabins, its parties, and what can be said of one or two of them."""


class Cabin:
    def __init__(self, deck, place, rank, berths, flat):
        self.deck = deck
        self.place = place
        self.rank = rank
        self.berths = berths
        self.flat = flat
        self.out = 0


class Party:
    def __init__(self, many, rank, flat):
        self.many = many
        self.rank = rank
        self.flat = flat
        self.cabin = None
        self.gone = False


class Ship:
    # A party that is gone stays in the list: it counts among those that there have been.
    def __init__(self):
        self.cabins = []
        self.parties = []

    def has_cabin(self, k):
        return k < len(self.cabins)

    def has_party(self, p):
        return p < len(self.parties) and not self.parties[p].gone

    def is_at(self, deck, place):
        for cabin in self.cabins:
            if cabin.deck == deck and cabin.place == place:
                return True
        return False

    def is_free(self, k):
        for party in self.parties:
            if party.cabin == k:
                return False
        return True

    def free_cabins(self):
        return [k for k in range(len(self.cabins)) if self.is_free(k)]

    def waits(self, p):
        return self.has_party(p) and self.parties[p].cabin is None

    def waiting_parties(self):
        return [p for p in range(len(self.parties)) if self.waits(p)]

    def does(self, p, k):
        party = self.parties[p]
        cabin = self.cabins[k]
        if cabin.out == 1 or cabin.berths < party.many or cabin.rank < party.rank:
            return False
        return cabin.flat == 1 or party.flat == 0
