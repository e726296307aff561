"""The purser's book: the ship as it is, and the changes that can be taken back and done again.

It holds the ship ahead of each change that can be taken back, and behind each that can be done again.
"""

from cabinsgiven.refusals import NOT_THERE
from cabinsgiven.ship import Ship

MOST_TAKEN_BACK = 30


class Book:
    def __init__(self):
        self.start_anew()

    def start_anew(self):
        self.ship = Ship()
        self.earlier = []
        self.later = []

    # A ship that lies in the book is never changed again: a change is made to a copy of it.
    def enter_change(self, changed):
        self.earlier = (self.earlier + [self.ship])[-MOST_TAKEN_BACK:]
        self.later = []
        self.ship = changed

    def take_back(self):
        if len(self.earlier) == 0:
            return NOT_THERE
        self.later.append(self.ship)
        self.ship = self.earlier.pop()
        return len(self.earlier)

    def do_again(self):
        if len(self.later) == 0:
            return NOT_THERE
        self.earlier.append(self.ship)
        self.ship = self.later.pop()
        return len(self.later)
