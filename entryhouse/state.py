"""What a tournament knows: its schools, their places, the open offers."""

from entryhouse.ledger import FEE, GIVEN_BACK, Ledger
from entryhouse.rules import rules_of


class School:
    """A school with the places it has, its open offers, and the judges it brings."""

    def __init__(self, number, wanted, judges):
        self.number = number
        self.wanted = wanted
        self.judges = judges
        self.has = 0
        self.offered = 0

    def load(self):
        return self.has + self.offered


class Offer:
    """An open offer of a place, with the day on which it was made."""

    def __init__(self, number, school, day):
        self.number = number
        self.school = school
        self.day = day


class House:
    """A tournament. Its dicts keep the order: of schools as they entered, of offers as made."""

    def __init__(self):
        self.begin()

    def begin(self):
        """All is as at first."""
        self.rules = rules_of([])
        self.schools = {}
        self.offers = {}
        self.made = 0
        self.day = 0
        self.closed = False
        self.ledger = Ledger()

    def waits(self, school):
        return school.load() < school.wanted and school.load() < self.rules.one("cap")

    def make_offer(self, school):
        self.offers[self.made] = Offer(self.made, school, self.day)
        self.made += 1
        school.offered += 1

    def end_offer(self, offer):
        self.offers.pop(offer.number)
        offer.school.offered -= 1

    def take_place(self, school):
        school.has += 1
        self.ledger.write(school, FEE, self.rules.one("fee"))

    def give_up_places(self, school, places, given_back):
        """The school has and wants so many fewer, for which all of this is given back."""
        school.has -= places
        school.wanted -= places
        self.ledger.write(school, GIVEN_BACK, given_back)
