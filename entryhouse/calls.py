"""The calls: each takes the house and its own numbers, and answers the list of what it tells."""

from entryhouse.rules import first_fault, read_lines, rules_of
from entryhouse.state import School

MOST_BYTES = 1000
MOST_SCHOOLS = 30

# A refusal is answered as its number below 0.
OUT_OF_BOUNDS = 1
IN_ALREADY = 3
CLOSED = 4
NOT_THERE = 5
NOT_ENOUGH = 6
NOT_WAITING = 7
NO_ROOM = 9


def clear(house):
    house.begin()
    return [0]


def rules(house, text):
    if len(text) > MOST_BYTES or not all([0 <= number <= 255 for number in text]):
        return [-OUT_OF_BOUNDS]
    if len(house.schools) > 0 or house.day != 0 or house.closed:
        return [-CLOSED]
    lines = read_lines(text)
    fault = first_fault(lines)
    if fault is not None:
        return [1, fault[0], fault[1]]
    house.rules = rules_of(lines)
    return [0] + house.rules.row()


def show(house):
    shown = house.rules.shown()
    return [len(shown)] + [ord(sign) for sign in shown]


def enter(house, number, wanted, judges):
    if not (1 <= number <= 999 and 1 <= wanted <= 20 and 0 <= judges <= 99):
        return [-OUT_OF_BOUNDS]
    if house.closed:
        return [-CLOSED]
    if number in house.schools:
        return [-IN_ALREADY]
    before = len(house.schools)
    if before >= MOST_SCHOOLS:
        return [-NO_ROOM]
    house.schools[number] = School(number, wanted, judges)
    return [before]


def want(house, number, n):
    school = house.schools.get(number)
    if school is None:
        return [-NOT_THERE]
    if not 0 <= n <= 20:
        return [-OUT_OF_BOUNDS]
    if house.closed:
        return [-CLOSED]
    if n < school.load():
        return [-NOT_ENOUGH]
    school.wanted = n
    return [n - school.load()]


def bring(house, number, n):
    school = house.schools.get(number)
    if school is None:
        return [-NOT_THERE]
    if not 0 <= n <= 99:
        return [-OUT_OF_BOUNDS]
    if house.closed:
        return [-CLOSED]
    school.judges = n
    return [house.rules.judges_owed(school.has)]


def accept(house, number):
    offer = house.offers.get(number)
    if offer is None:
        return [-NOT_THERE]
    if house.closed:
        return [-CLOSED]
    if not house.ledger.has_room(1):
        return [-NO_ROOM]
    house.end_offer(offer)
    house.take_place(offer.school)
    return [offer.school.has, offer.school.number]


def decline(house, number):
    offer = house.offers.get(number)
    if offer is None:
        return [-NOT_THERE]
    if house.closed:
        return [-CLOSED]
    house.end_offer(offer)
    offer.school.wanted -= 1
    return [offer.school.wanted, offer.school.number]


def drop(house, number, n):
    school = house.schools.get(number)
    if school is None:
        return [-NOT_THERE]
    if not 1 <= n <= 60:
        return [-OUT_OF_BOUNDS]
    if house.closed:
        return [-CLOSED]
    if school.has < n:
        return [-NOT_ENOUGH]
    if not house.ledger.has_room(1):
        return [-NO_ROOM]
    percent = house.rules.percent(house.day)
    # Rounded for each place by itself, ahead of the product.
    given_back = n * (house.rules.one("fee") * percent // 100)
    house.give_up_places(school, n, given_back)
    return [given_back, percent]


def transfer(house, a, b):
    giver = house.schools.get(a)
    taker = house.schools.get(b)
    if giver is None or taker is None:
        return [-NOT_THERE]
    if a == b:
        return [-OUT_OF_BOUNDS]
    if house.closed:
        return [-CLOSED]
    if giver.has < 1:
        return [-NOT_ENOUGH]
    if not house.waits(taker):
        return [-NOT_WAITING]
    if not house.ledger.has_room(2):
        return [-NO_ROOM]
    house.give_up_places(giver, 1, house.rules.one("fee"))
    house.take_place(taker)
    return [giver.has]


# Each stands at its call's number.
CALLS = (clear, rules, show, enter, want, bring, accept, decline, drop, transfer)
