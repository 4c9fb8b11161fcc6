"""What a tournament knows: its schools, their places, the open offers."""

from entryhouse.ledger import FEE, FINE, GIVEN_BACK, Ledger
from entryhouse.rules import rules_of


class School:
    """A school with the places it has, its open offers, and the judges it brings."""

    def __init__(self, number, wanted, judges):
        self.number = number
        self.wanted = wanted
        self.judges = judges
        self.has = 0
        self.offered = 0

    def load(self):
        return self.has + self.offered


class Offer:
    """An open offer of a place, with the day on which it was made."""

    def __init__(self, number, school, day):
        self.number = number
        self.school = school
        self.day = day


class House:
    """A tournament. Its dicts keep the order: of schools as they entered, of offers as made."""

    def __init__(self):
        self.begin()

    def begin(self):
        """All is as at first."""
        self.rules = rules_of([])
        self.schools = {}
        self.offers = {}
        self.made = 0
        self.day = 0
        self.closed = False
        self.ledger = Ledger()

    def most(self, school):
        """The load up to which a school waits."""
        return min(school.wanted, self.rules.one("cap"))

    def waits(self, school):
        return school.load() < self.most(school)

    def taken(self):
        return sum([school.has for school in self.schools.values()])

    def free(self):
        """How many places are neither taken nor offered."""
        return self.rules.one("places") - self.taken() - len(self.offers)

    def turns(self):
        """The schools to which places are offered one after another, as long as there are some."""
        steps = []
        for entered, school in enumerate(self.schools.values()):
            for load in range(school.load(), self.most(school)):
                steps.append((load, entered, school.number))
        # A load rises by one with each offer, so no step is taken ahead of one with a lesser load.
        return [self.schools[step[2]] for step in sorted(steps)]

    def last_day(self, offer):
        """The last day on which an offer stands."""
        return offer.day + self.rules.one("answer")

    def pass_night(self):
        self.day += 1
        for offer in list(self.offers.values()):
            if self.last_day(offer) < self.day:
                self.lose_offer(offer)
        if not self.closed:
            self.make_offers()

    def make_offers(self):
        for school in self.turns()[:self.free()]:
            self.make_offer(school)

    def make_offer(self, school):
        self.offers[self.made] = Offer(self.made, school, self.day)
        self.made += 1
        school.offered += 1

    def end_offer(self, offer):
        self.offers.pop(offer.number)
        offer.school.offered -= 1

    def lose_offer(self, offer):
        """It is declined, or it lapses: its school wants one less."""
        self.end_offer(offer)
        offer.school.wanted -= 1

    def take_place(self, school):
        school.has += 1
        self.ledger.write(school, FEE, self.rules.one("fee"))

    def give_up_places(self, school, places, given_back):
        """The school has and wants so many fewer, for which all of this is given back."""
        school.has -= places
        school.wanted -= places
        self.ledger.write(school, GIVEN_BACK, given_back)

    def missing(self, school):
        """How many judges a school is missing."""
        return max(0, self.rules.judges_owed(school.has) - school.judges)

    def shut(self):
        self.closed = True
        for offer in list(self.offers.values()):
            self.end_offer(offer)
        self.fine_schools()

    def fine_schools(self):
        for school in self.schools.values():
            fines = self.missing(school) * self.rules.one("fine")
            if fines != 0:
                self.ledger.write(school, FINE, fines)
