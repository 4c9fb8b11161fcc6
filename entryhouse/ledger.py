"""The entries of money, one behind another."""

MOST_ENTRIES = 400

FEE = "fee"
GIVEN_BACK = "given back"


class Ledger:
    """All entries, each a tuple of a school's number, what it is for, and how much."""

    def __init__(self):
        self.entries = []

    def has_room(self, more):
        return len(self.entries) + more <= MOST_ENTRIES

    def write(self, school, kind, amount):
        self.entries.append((school.number, kind, amount))
