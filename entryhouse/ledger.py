"""The entries of money, one behind another, and the accounts that they come to."""

MOST_ENTRIES = 400

PAID = "paid"
FEE = "fee"
GIVEN_BACK = "given back"
FINE = "fine"
PAID_OUT = "paid out"


class Ledger:
    """All entries, each a tuple of a school's number, what it is for, and how much."""

    def __init__(self):
        self.entries = []

    def has_room(self, more):
        return len(self.entries) + more <= MOST_ENTRIES

    def write(self, school, kind, amount):
        self.entries.append((school.number, kind, amount))

    def entries_of(self, school):
        return [entry for entry in self.entries if entry[0] == school.number]

    def account_of(self, school):
        return balance(self.entries_of(school))


def balance(entries):
    """What the house owes by these entries, below 0 what is owed to it."""
    owed = 0
    for entry in entries:
        if entry[1] in (PAID, GIVEN_BACK):
            owed += entry[2]
        else:
            owed -= entry[2]
    return owed


def sums(entries):
    """What these entries come to, kind by kind, in the order in which a row tells them."""
    return [amount_of(kind, entries) for kind in (PAID, FEE, GIVEN_BACK, FINE, PAID_OUT)]


def amount_of(kind, entries):
    return sum([entry[2] for entry in entries if entry[1] == kind])
