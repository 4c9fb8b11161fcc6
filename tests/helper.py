"""Calls as the interface writes them, and what they answer, a list for each call."""

from entryhouse.house import answers, answers_on
from entryhouse.ledger import MOST_ENTRIES
from entryhouse.state import House

CLEAR = [0]
SHOW = [2]
CLOSE = [13]
OFFERS = [16]
QUEUE = [17]
MONEY = [18]
COUNTS = [19]
HUGE = 10 ** 18

DEFAULT_ROW = [16, 4, 4, 1, 2, 1000, 500, 3, 60]
DEFAULT_LINES = [
    "places 16", "form 4", "cap 4", "judges 1 2", "fee 1000", "fine 500", "answer 3", "start 60", "back",
]


def rules(text):
    """The call rules, of a text or of the numbers of a row."""
    row = list(text.encode("latin-1")) if isinstance(text, str) else list(text)
    return [1, len(row)] + row


def enter(number, wanted, judges=0):
    return [3, number, wanted, judges]


def want(number, n):
    return [4, number, n]


def bring(number, n):
    return [5, number, n]


def accept(offer):
    return [6, offer]


def decline(offer):
    return [7, offer]


def drop(number, n):
    return [8, number, n]


def transfer(a, b):
    return [9, a, b]


def pay(number, n):
    return [10, number, n]


def payout(number):
    return [11, number]


def night(n):
    return [12, n]


def school(number):
    return [14, number]


def account(number):
    return [15, number]


def nights(n):
    """So many nights, as few calls as they take."""
    return [night(30)] * (n // 30) + ([night(n % 30)] if n % 30 > 0 else [])


def flat(calls):
    return [number for call in calls for number in call]


def parted(answered):
    """The flat answer as a list for each call."""
    parts = []
    at = 0
    while at < len(answered):
        end = at + 1 + answered[at]
        parts.append(answered[at + 1:end])
        at = end
    assert at == len(answered), "the last answer is cut off"
    return parts


def ask(*calls):
    return parted(answers(flat(calls)))


def last(*calls):
    """What the last of these calls answers."""
    return ask(*calls)[-1]


def ask_on(house, *calls):
    return parted(answers_on(house, flat(calls)))


def shown_as(lines):
    """What show answers where these are the lines."""
    text = "\n".join(lines)
    return [len(text)] + list(text.encode("ascii"))


def default_but(*lines):
    """The lines as they are shown where these alone are told."""
    told = {line.split(" ")[0]: line for line in lines}
    return [told.get(line.split(" ")[0], line) for line in DEFAULT_LINES]


def house_with(text="", schools=(), offers=(), day=0):
    """A house with rules, schools (number, wanted, judges), open offers to these schools, and a day."""
    house = House()
    told = ask_on(house, rules(text), *[enter(*school) for school in schools])
    assert all(numbers[0] >= 0 for numbers in told) and len(told[0]) == 10, told
    house.day = day
    for number in offers:
        house.make_offer(house.schools[number])
    return house


def settled(text="", schools=(), has=(), offers=(), day=0):
    """The same, and before the offers each school of has takes a place; no entry is left of these."""
    house = house_with(text, schools)
    for number in has:
        house.make_offer(house.schools[number])
        ask_on(house, accept(house.made - 1))
    house.ledger.entries = []
    house.made = 0
    house.day = day
    for number in offers:
        house.make_offer(house.schools[number])
    return house


def fill_ledger(house, entries):
    """Entries of nothing, up to so many."""
    for school in list(house.schools.values())[:1]:
        while len(house.ledger.entries) < entries:
            house.ledger.write(school, "fee", 0)
    assert len(house.ledger.entries) == entries <= MOST_ENTRIES


def picture(thing):
    """All that a house holds, as plain lists that can be compared."""
    if isinstance(thing, dict):
        return [(key, picture(value)) for key, value in thing.items()]
    if isinstance(thing, (list, tuple)):
        return [picture(value) for value in thing]
    if hasattr(thing, "__dict__"):
        return [type(thing).__name__, picture(vars(thing))]
    return thing


def places_of(house, number):
    """has, wanted and open offers of a school."""
    school = house.schools[number]
    return (school.has, school.wanted, school.offered)


def assert_refused(case, house, call, refusal):
    """The call answers the refusal's number alone and changes nothing."""
    before = picture(house)
    case.assertEqual(ask_on(house, call), [[refusal]], call)
    case.assertEqual(picture(house), before, call)
