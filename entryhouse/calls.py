"""The calls: each takes the house and its own numbers, and answers the list of what it tells."""

from entryhouse.ledger import PAID, PAID_OUT, balance, sums
from entryhouse.rules import first_fault, read_lines, rules_of
from entryhouse.state import School

MOST_BYTES = 1000
MOST_SCHOOLS = 30
MOST_NIGHTS = 30
MOST_PAID = 1000000
LAST_DAY = 1000

# A refusal is answered as its number below 0.
OUT_OF_BOUNDS = 1
IN_ALREADY = 3
CLOSED = 4
NOT_THERE = 5
NOT_ENOUGH = 6
NOT_WAITING = 7
NO_ROOM = 9


def clear(house):
    house.begin()
    return [0]


def rules(house, text):
    if len(text) > MOST_BYTES or not all([0 <= number <= 255 for number in text]):
        return [-OUT_OF_BOUNDS]
    if len(house.schools) > 0 or house.day != 0 or house.closed:
        return [-CLOSED]
    lines = read_lines(text)
    fault = first_fault(lines)
    if fault is not None:
        return [1, fault[0], fault[1]]
    house.rules = rules_of(lines)
    return [0] + house.rules.row()


def show(house):
    shown = house.rules.shown()
    return [len(shown)] + [ord(sign) for sign in shown]


def enter(house, number, wanted, judges):
    if not (1 <= number <= 999 and 1 <= wanted <= 20 and 0 <= judges <= 99):
        return [-OUT_OF_BOUNDS]
    if house.closed:
        return [-CLOSED]
    if number in house.schools:
        return [-IN_ALREADY]
    before = len(house.schools)
    if before >= MOST_SCHOOLS:
        return [-NO_ROOM]
    house.schools[number] = School(number, wanted, judges)
    return [before]


def want(house, number, n):
    school = house.schools.get(number)
    if school is None:
        return [-NOT_THERE]
    if not 0 <= n <= 20:
        return [-OUT_OF_BOUNDS]
    if house.closed:
        return [-CLOSED]
    if n < school.load():
        return [-NOT_ENOUGH]
    school.wanted = n
    return [n - school.load()]


def bring(house, number, n):
    school = house.schools.get(number)
    if school is None:
        return [-NOT_THERE]
    if not 0 <= n <= 99:
        return [-OUT_OF_BOUNDS]
    if house.closed:
        return [-CLOSED]
    school.judges = n
    return [house.rules.judges_owed(school.has)]


def accept(house, number):
    offer = house.offers.get(number)
    if offer is None:
        return [-NOT_THERE]
    if house.closed:
        return [-CLOSED]
    if not house.ledger.has_room(1):
        return [-NO_ROOM]
    house.end_offer(offer)
    house.take_place(offer.school)
    return [offer.school.has, offer.school.number]


def decline(house, number):
    offer = house.offers.get(number)
    if offer is None:
        return [-NOT_THERE]
    if house.closed:
        return [-CLOSED]
    house.lose_offer(offer)
    return [offer.school.wanted, offer.school.number]


def drop(house, number, n):
    school = house.schools.get(number)
    if school is None:
        return [-NOT_THERE]
    if not 1 <= n <= 60:
        return [-OUT_OF_BOUNDS]
    if house.closed:
        return [-CLOSED]
    if school.has < n:
        return [-NOT_ENOUGH]
    if not house.ledger.has_room(1):
        return [-NO_ROOM]
    percent = house.rules.percent(house.day)
    # Rounded for each place by itself, ahead of the product.
    given_back = n * (house.rules.one("fee") * percent // 100)
    house.give_up_places(school, n, given_back)
    return [given_back, percent]


def transfer(house, a, b):
    giver = house.schools.get(a)
    taker = house.schools.get(b)
    if giver is None or taker is None:
        return [-NOT_THERE]
    if a == b:
        return [-OUT_OF_BOUNDS]
    if house.closed:
        return [-CLOSED]
    if giver.has < 1:
        return [-NOT_ENOUGH]
    if not house.waits(taker):
        return [-NOT_WAITING]
    if not house.ledger.has_room(2):
        return [-NO_ROOM]
    house.give_up_places(giver, 1, house.rules.one("fee"))
    house.take_place(taker)
    return [giver.has]


def pay(house, number, n):
    school = house.schools.get(number)
    if school is None:
        return [-NOT_THERE]
    if not 1 <= n <= MOST_PAID:
        return [-OUT_OF_BOUNDS]
    if not house.ledger.has_room(1):
        return [-NO_ROOM]
    house.ledger.write(school, PAID, n)
    return [house.ledger.account_of(school)]


def payout(house, number):
    school = house.schools.get(number)
    if school is None:
        return [-NOT_THERE]
    account = house.ledger.account_of(school)
    if account <= 0:
        return [-NOT_ENOUGH]
    if not house.ledger.has_room(1):
        return [-NO_ROOM]
    house.ledger.write(school, PAID_OUT, account)
    return [account]


def night(house, n):
    if not 1 <= n <= MOST_NIGHTS:
        return [-OUT_OF_BOUNDS]
    if house.day + n > LAST_DAY:
        return [-NO_ROOM]
    before = house.made
    for passed in range(n):
        house.pass_night()
    row = []
    for offer in house.offers.values():
        if offer.number >= before:
            row.extend([offer.number, offer.school.number, offer.day])
    return [house.day] + row


def close(house):
    if house.closed:
        return [-CLOSED]
    if house.day < house.rules.one("start"):
        return [-NOT_ENOUGH]
    # Room for a fine of each school, whether or not it's fined.
    if not house.ledger.has_room(len(house.schools)):
        return [-NO_ROOM]
    house.shut()
    swing = -house.taken() % house.rules.one("form")
    row = []
    for school in house.schools.values():
        row.extend([school.number, school.has, house.missing(school)])
    return [house.taken(), 1, swing, len(row)] + row


def tell_school(house, number):
    school = house.schools.get(number)
    if school is None:
        return [-NOT_THERE]
    return [school.has, school.wanted, school.offered, school.judges, house.rules.judges_owed(school.has)]


def tell_account(house, number):
    school = house.schools.get(number)
    if school is None:
        return [-NOT_THERE]
    return [house.ledger.account_of(school)] + sums(house.ledger.entries_of(school))


def tell_offers(house):
    rows = [[offer.number, offer.school.number, offer.day, house.last_day(offer)] for offer in house.offers.values()]
    # A single row stands to the end, several behind how many numbers each has.
    if len(rows) == 1:
        return [1] + rows[0]
    told = [len(rows)]
    for row in rows:
        told.extend([len(row)] + row)
    return told


def tell_queue(house):
    turns = house.turns()
    return [len(turns)] + [school.number for school in turns]


def tell_money(house):
    entries = house.ledger.entries
    return [balance(entries)] + sums(entries)


def tell_counts(house):
    closed = 1 if house.closed else 0
    percent = house.rules.percent(house.day)
    entries = len(house.ledger.entries)
    return [house.day, len(house.schools), house.taken(), len(house.offers), house.made, closed, percent, entries]


# Each stands at its call's number.
CALLS = (
    clear, rules, show, enter, want, bring, accept, decline, drop, transfer, pay, payout, night, close,
    tell_school, tell_account, tell_offers, tell_queue, tell_money, tell_counts,
)
