"""The promises over long runs of mixed calls, told by the calls' own answers and by a second, plain reading."""

import itertools
import random
import unittest

from entryhouse.house import answers, answers_on
from entryhouse.state import House
from helper import (
    CLEAR, CLOSE, COUNTS, MONEY, OFFERS, QUEUE, SHOW, accept, account, ask, ask_on, bring, decline, drop, enter, flat,
    night, nights, parted, pay, payout, rules, school, transfer, want,
)

RULES = (
    {}, {"places": 2, "cap": 1, "answer": 1}, {"places": 7, "cap": 2, "fee": 333, "back": (20, 80, 10, 50, 0, 10)},
    {"places": 60, "cap": 9, "form": 2, "answer": 30, "judges": (9, 1)}, {"places": 5, "fee": 0, "fine": 0, "start": 9},
    {"places": 11, "cap": 3, "fee": 999, "start": 30, "back": (29, 99, 7, 33), "judges": (2, 3), "fine": 77},
    {"places": 20, "cap": 5, "answer": 2, "judges": (0, 1), "start": 1, "back": (0, 50)},
)
UNTOLD = {"places": 16, "form": 4, "cap": 4, "judges": (1, 2), "fee": 1000, "fine": 500, "answer": 3, "start": 60,
          "back": ()}


def text_of(told):
    lines = []
    for word, numbers in told.items():
        row = numbers if isinstance(numbers, tuple) else (numbers,)
        lines.append(" ".join([word] + [str(number) for number in row]))
    return rules("\n".join(lines))


def offer_row(offer):
    return [offer["o"], offer["id"], offer["day"]]


class Plain:
    """The document's words one by one, with offers made one after another and accounts kept by the call."""

    def __init__(self, told):
        self.rules = {**UNTOLD, **told}
        self.schools, self.offers, self.made, self.day, self.closed, self.entries = [], [], 0, 0, False, 0

    def find(self, number):
        return next((one for one in self.schools if one["id"] == number), None)

    def open_of(self, one):
        return sum(offer["id"] == one["id"] for offer in self.offers)

    def load(self, one):
        return one["has"] + self.open_of(one)

    def waits(self, one):
        return self.load(one) < one["wanted"] and self.load(one) < self.rules["cap"]

    def owed(self, one):
        a, b = self.rules["judges"]
        return -(-a * one["has"] // b)

    def missing(self, one):
        return max(0, self.owed(one) - one["judges"])

    def percent(self):
        back = self.rules["back"]
        fits = [back[k + 1] for k in range(0, len(back), 2) if self.day + back[k] <= self.rules["start"]]
        return fits[0] if fits else 0

    def value(self, one):
        return one["paid"] + one["back"] - one["fees"] - one["fines"] - one["out"]

    def row(self, ones):
        return [sum(one[kind] for one in ones) for kind in ("paid", "fees", "back", "fines", "out")]

    def called(self, call):
        return getattr(self, f"call{call[0]}")(*call[1:])

    def refused(self, *cases):
        """The first refusal that holds, else None."""
        return next(([-number] for number, holds in cases if holds), None)

    def call3(self, number, wanted, judges):
        fits = 1 <= number <= 999 and 1 <= wanted <= 20 and 0 <= judges <= 99
        told = self.refused((1, not fits), (4, self.closed), (3, self.find(number)), (9, len(self.schools) == 30))
        if told:
            return told
        self.schools.append({"id": number, "wanted": wanted, "judges": judges, "has": 0, "paid": 0, "fees": 0,
                             "back": 0, "fines": 0, "out": 0})
        return [len(self.schools) - 1]

    def call4(self, number, n):
        one = self.find(number)
        told = self.refused((5, not one), (1, not 0 <= n <= 20), (4, self.closed), (6, one and n < self.load(one)))
        if told:
            return told
        one["wanted"] = n
        return [n - self.load(one)]

    def call5(self, number, n):
        one = self.find(number)
        told = self.refused((5, not one), (1, not 0 <= n <= 99), (4, self.closed))
        if told:
            return told
        one["judges"] = n
        return [self.owed(one)]

    def taken_out(self, o):
        offer = next(offer for offer in self.offers if offer["o"] == o)
        self.offers.remove(offer)
        return self.find(offer["id"])

    def is_open(self, o):
        return o in [offer["o"] for offer in self.offers]

    def call6(self, o):
        told = self.refused((5, not self.is_open(o)), (4, self.closed), (9, self.entries + 1 > 400))
        if told:
            return told
        one = self.taken_out(o)
        one["has"] += 1
        one["fees"] += self.rules["fee"]
        self.entries += 1
        return [one["has"], one["id"]]

    def call7(self, o):
        told = self.refused((5, not self.is_open(o)), (4, self.closed))
        if told:
            return told
        one = self.taken_out(o)
        one["wanted"] -= 1
        return [one["wanted"], one["id"]]

    def call8(self, number, n):
        one = self.find(number)
        told = self.refused((5, not one), (1, not 1 <= n <= 60), (4, self.closed), (6, one and one["has"] < n),
                            (9, self.entries + 1 > 400))
        if told:
            return told
        given = sum(self.rules["fee"] * self.percent() // 100 for place in range(n))
        one["has"] -= n
        one["wanted"] -= n
        one["back"] += given
        self.entries += 1
        return [given, self.percent()]

    def call9(self, a, b):
        one, other = self.find(a), self.find(b)
        told = self.refused((5, not one), (5, not other), (1, a == b), (4, self.closed), (6, one and one["has"] == 0),
                            (7, other and not self.waits(other)), (9, self.entries + 2 > 400))
        if told:
            return told
        one["has"] -= 1
        one["wanted"] -= 1
        one["back"] += self.rules["fee"]
        other["has"] += 1
        other["fees"] += self.rules["fee"]
        self.entries += 2
        return [one["has"]]

    def call10(self, number, n):
        one = self.find(number)
        told = self.refused((5, not one), (1, not 1 <= n <= 10 ** 6), (9, self.entries + 1 > 400))
        if told:
            return told
        one["paid"] += n
        self.entries += 1
        return [self.value(one)]

    def call11(self, number):
        one = self.find(number)
        told = self.refused((5, not one), (6, one and self.value(one) <= 0), (9, self.entries + 1 > 400))
        if told:
            return told
        out = self.value(one)
        one["out"] += out
        self.entries += 1
        return [out]

    def call12(self, n):
        told = self.refused((1, not 1 <= n <= 30), (9, self.day + n > 1000))
        if told:
            return told
        before = self.made
        for passed in range(n):
            self.one_night()
        return [self.day] + [number for offer in self.offers if offer["o"] >= before for number in offer_row(offer)]

    def one_night(self):
        self.day += 1
        for offer in [offer for offer in self.offers if offer["day"] + self.rules["answer"] < self.day]:
            self.taken_out(offer["o"])["wanted"] -= 1
        while not self.closed and sum(map(self.load, self.schools)) < self.rules["places"]:
            waiting = [one for one in self.schools if self.waits(one)]
            if not waiting:
                break
            least = min(map(self.load, waiting))
            first = next(one for one in waiting if self.load(one) == least)
            self.offers.append({"o": self.made, "id": first["id"], "day": self.day})
            self.made += 1

    def call13(self):
        told = self.refused((4, self.closed), (6, self.day < self.rules["start"]),
                            (9, self.entries + len(self.schools) > 400))
        if told:
            return told
        self.closed, self.offers, row = True, [], []
        for one in self.schools:
            row += [one["id"], one["has"], self.missing(one)]
            one["fines"] = self.missing(one) * self.rules["fine"]
            self.entries += one["fines"] > 0
        taken = sum(one["has"] for one in self.schools)
        swing = 0
        while (taken + swing) % self.rules["form"] > 0:
            swing += 1
        return [taken, 1, swing, len(row)] + row

    def call14(self, number):
        one = self.find(number)
        if not one:
            return [-5]
        return [one["has"], one["wanted"], self.open_of(one), one["judges"], self.owed(one)]

    def call15(self, number):
        one = self.find(number)
        return [self.value(one)] + self.row([one]) if one else [-5]

    def call16(self):
        rows = [offer_row(offer) + [offer["day"] + self.rules["answer"]] for offer in self.offers]
        if len(rows) < 2:
            return [len(rows)] + sum(rows, [])
        return [len(rows)] + [number for row in rows for number in [4] + row]

    def call17(self):
        loads, row = {one["id"]: self.load(one) for one in self.schools}, []
        while True:
            waiting = [one for one in self.schools if loads[one["id"]] < min(one["wanted"], self.rules["cap"])]
            if not waiting:
                return [len(row)] + row
            first = min(waiting, key=lambda one: (loads[one["id"]], self.schools.index(one)))
            loads[first["id"]] += 1
            row.append(first["id"])

    def call18(self):
        return [sum(map(self.value, self.schools))] + self.row(self.schools)

    def call19(self):
        taken = sum(one["has"] for one in self.schools)
        return [self.day, len(self.schools), taken, len(self.offers), self.made, int(self.closed), self.percent(),
                self.entries]


def some_call(chance, made, close_at):
    """One call, mostly of schools 1 to 9 and of offers made of late."""
    number, other = chance.randint(1, 9), chance.randint(1, 9)
    offer = chance.randint(max(0, made - 12), made)
    small = chance.choice((0, 1, 1, 2, 3, 5, 8, 20, 21))
    kind = chance.randrange(100)
    weighed = (
        (10, enter(number, small, chance.randint(0, 9))), (17, want(number, small)), (20, bring(number, small)),
        (42, accept(offer)), (47, decline(offer)), (53, drop(number, small)), (60, transfer(number, other)),
        (66, pay(number, chance.choice((0, 1, 500, 1000, 3000, 10 ** 6, 10 ** 6 + 1)))), (70, payout(number)),
        (73, school(number)), (76, account(number)), (79, OFFERS), (82, QUEUE), (85, MONEY), (88, COUNTS),
        (98, night(chance.choice((0, 1, 1, 1, 1, 1, 2, 3, 31)))), (100, CLOSE if close_at else night(1)),
    )
    return next(call for bound, call in weighed if kind < bound)


def all_told(numbers):
    return [call for number in numbers for call in (school(number), account(number))] + [OFFERS, QUEUE, MONEY, COUNTS]


class TestPlainReading(unittest.TestCase):
    """The same answers as the plain reading gives."""

    def test_lines_of_200_calls(self):
        for seed in range(84):
            chance = random.Random(seed)
            told = RULES[seed % len(RULES)]
            plain, calls, expected = Plain(told), [text_of(told)], []
            left = 40
            for at in range(199):
                call = some_call(chance, plain.made, close_at=at > 120)
                if call[0] == 12:
                    left -= 1
                if left < 0:
                    call = COUNTS
                calls.append(call)
                expected.append(plain.called(call))
            self.assertEqual(ask(*calls)[1:], expected, seed)

    def test_runs_up_to_400_entries_and_beyond(self):
        for seed in range(14):
            chance = random.Random(1000 + seed)
            told = RULES[seed % len(RULES)]
            plain, house = Plain(told), House()
            ask_on(house, text_of(told))
            refused = 0
            for at in range(6000):
                call = some_call(chance, plain.made, close_at=at > 5900)
                expected = plain.called(call)
                self.assertEqual(ask_on(house, call), [expected], (seed, at, call))
                refused += expected == [-9] and call[0] != 12
            self.assertGreater(refused, 20, seed)

    def test_30_schools_and_many_nights(self):
        for seed, told in enumerate(RULES):
            chance = random.Random(2000 + seed)
            plain = Plain(told)
            calls = [enter(number, chance.randint(1, 20), 0) for number in chance.sample(range(1, 1000), 30)]
            calls += [night(30)] * 34 + [enter(1, 1), CLOSE] + all_told([call[1] for call in calls])
            expected = [plain.called(call) for call in calls]
            self.assertEqual(ask(text_of(told), *calls)[1:], expected, seed)


class TestAtEachCall(unittest.TestCase):
    """What the calls answer of themselves, behind each call of long runs."""

    def runs(self):
        """Long runs, each by a house, its rules, and its calls one by one."""
        for seed in range(14):
            told = RULES[seed % len(RULES)]
            house = House()
            ask_on(house, text_of(told))
            yield house, {**UNTOLD, **told}, self.calls_of(house, random.Random(3000 + seed))

    def calls_of(self, house, chance):
        for at in range(300):
            yield some_call(chance, ask_on(house, COUNTS)[0][4], close_at=at > 270)

    def schools(self, house):
        """What school answers of each that is there, by number."""
        told = {number: ask_on(house, school(number))[0] for number in range(1, 10)}
        return {number: numbers for number, numbers in told.items() if numbers != [-5]}

    def test_places_cap_and_wanted(self):
        for house, told, calls in self.runs():
            for call in calls:
                ask_on(house, call)
                schools = self.schools(house)
                loads = {number: numbers[0] + numbers[2] for number, numbers in schools.items()}
                self.assertLessEqual(sum(loads.values()), told["places"])
                for number, load in loads.items():
                    self.assertLessEqual(load, min(told["cap"], schools[number][1]), call)
                    self.assertGreaterEqual(min(schools[number]), 0, call)
                counts = ask_on(house, COUNTS)[0]
                self.assertEqual(counts[1], len(schools))
                self.assertEqual(counts[2], sum(numbers[0] for numbers in schools.values()))
                self.assertEqual(counts[3], sum(numbers[2] for numbers in schools.values()))

    def test_who_waits_behind_a_night(self):
        nights_seen, waiting_seen = 0, 0
        for house, told, calls in self.runs():
            for call in calls:
                answer = ask_on(house, call)[0]
                closed = ask_on(house, COUNTS)[0][5]
                if call[0] != 12 or answer[0] < 0 or closed:
                    continue
                schools = self.schools(house)
                loads = {number: numbers[0] + numbers[2] for number, numbers in schools.items()}
                waiting = [loads[number] for number, numbers in schools.items()
                           if loads[number] < min(numbers[1], told["cap"])]
                nights_seen += 1
                if waiting:
                    waiting_seen += 1
                    self.assertEqual(sum(loads.values()), told["places"])
                offered = [number for number, day in zip(answer[2::3], answer[3::3]) if day == answer[0]]
                for number in offered:
                    for load in waiting:
                        self.assertLessEqual(loads[number], load + 1)
        self.assertGreater(nights_seen, 100)
        self.assertGreater(waiting_seen, 30)

    def test_money_entry_by_entry(self):
        """Each account, and money, as the answers of the calls that change them tell."""
        for house, told, calls in self.runs():
            rows = {number: [0] * 5 for number in range(1, 10)}
            entries = 0
            for call in calls:
                answer = ask_on(house, call)[0]
                entries += self.booked(rows, told, call, answer)
                for number in self.schools(house):
                    row = rows[number]
                    balance = row[0] - row[1] + row[2] - row[3] - row[4]
                    self.assertEqual(ask_on(house, account(number)), [[balance] + row], call)
                row = [sum(column) for column in zip(*rows.values())]
                balance = row[0] - row[1] + row[2] - row[3] - row[4]
                self.assertEqual(ask_on(house, MONEY), [[balance] + row], call)
                self.assertEqual(ask_on(house, COUNTS)[0][7], entries, call)

    def booked(self, rows, told, call, answer):
        """Books what a call that wasn't refused moves; how many entries that is."""
        kind = call[0]
        if kind == 10 and self.was_paid(rows, call, answer):
            rows[call[1]][0] += call[2]
            return 1
        if kind not in (6, 8, 9, 11, 13) or answer[0] < 0:
            return 0
        if kind == 6:
            rows[answer[1]][1] += told["fee"]
        if kind == 8:
            rows[call[1]][2] += answer[0]
        if kind == 9:
            rows[call[1]][2] += told["fee"]
            rows[call[2]][1] += told["fee"]
        if kind == 11:
            rows[call[1]][4] += answer[0]
        if kind == 13:
            return self.fined(rows, told, answer)
        return 2 if kind == 9 else 1

    def was_paid(self, rows, call, answer):
        """Whether pay's answer is its account: these runs have less than 400 entries."""
        row = rows[call[1]]
        balance = row[0] - row[1] + row[2] - row[3] - row[4]
        return answer[0] == balance + call[2] and 1 <= call[2] <= 10 ** 6

    def fined(self, rows, told, answer):
        fined = 0
        for number, missing in zip(answer[4::3], answer[6::3]):
            rows[number][3] += missing * told["fine"]
            fined += missing * told["fine"] > 0
        return fined


class TestOrderOfAnswers(unittest.TestCase):
    """Answers of one day to unlike offers come to the same in whatever order."""

    def ends(self, begin, todo, behind, numbers):
        """What is told behind each order: at once, and behind what comes then."""
        ends = []
        for order in itertools.permutations(todo):
            asked = begin + list(order)
            told = ask(*asked, *all_told(numbers), *behind, *all_told(numbers))
            ends.append(told[len(asked):])
        return ends

    def same(self, begin, todo, behind, numbers):
        ends = self.ends(begin, todo, behind, numbers)
        for end in ends:
            self.assertEqual(end, ends[0])

    def test_accepted_and_declined(self):
        begin = [rules("places 5\nfee 70\nstart 3"), enter(5, 3), enter(3, 2), enter(9, 4), night(1)]
        for todo in itertools.product((accept, decline), repeat=5):
            answers_of_the_day = [answer(offer) for offer, answer in enumerate(todo)]
            ends = self.ends(begin, answers_of_the_day, [night(1)], [5, 3, 9])
            self.assertEqual(len(ends), 120)
            self.assertTrue(all(end == ends[0] for end in ends), todo)

    def test_some_left_to_lapse_and_close(self):
        begin = [rules("places 6\ncap 3\nanswer 1\nstart 3"), enter(5, 9), enter(3, 9), night(1), pay(5, 4000)]
        self.same(begin, [accept(4), decline(1), accept(0), decline(2)], [night(1), night(1), CLOSE, payout(5)], [5, 3])

    def test_another_answer_comes_to_something_else(self):
        begin = [enter(5, 3), night(1)]
        accepted = ask(*begin, accept(0), decline(1), *all_told([5]))[-6:]
        declined = ask(*begin, decline(0), accept(1), *all_told([5]))[-6:]
        self.assertEqual(accepted, declined)
        self.assertNotEqual(accepted, ask(*begin, accept(0), accept(1), *all_told([5]))[-6:])

    def test_amid_a_long_run(self):
        begin = [rules("places 9\ncap 4\nback 10 60\nanswer 2"), enter(5, 8), enter(3, 2), enter(9, 1), enter(1, 9),
                 night(1), accept(0), accept(4), decline(3), night(2), pay(1, 99), drop(5, 1), night(1)]
        still_open = [offer[0] for offer in self.open_offers(begin)]
        self.assertGreaterEqual(len(still_open), 4)
        todo = [accept(still_open[0]), decline(still_open[1]), accept(still_open[2]), decline(still_open[3])]
        self.same(begin, todo, [night(1), night(3)], [5, 3, 9, 1])

    def open_offers(self, begin):
        told = ask(*begin, OFFERS)[-1]
        return [told[at + 1:at + 5] for at in range(1, len(told), 5)]


class TestRunsApart(unittest.TestCase):

    CALLS = [rules("places 9\nstart 9\nback 5 50"), SHOW, *[enter(number, 4) for number in range(1, 6)], night(1),
             accept(0), accept(1), decline(2), pay(1, 1500), payout(1), transfer(1, 2), drop(2, 1), OFFERS, QUEUE,
             *nights(8), CLOSE, MONEY, COUNTS, school(1), account(1)]

    def test_two_runs_answer_alike(self):
        self.assertEqual(answers(flat(self.CALLS)), answers(flat(self.CALLS)))

    def test_behind_clear_it_is_as_for_the_first_time(self):
        once = answers(flat(self.CALLS))
        self.assertEqual(answers(flat(self.CALLS + [CLEAR] + self.CALLS)), once + [1, 0] + once)

    def test_on_one_house_calls_by_one_or_all_at_once(self):
        house = House()
        by_one = [number for call in self.CALLS for number in answers_on(house, call)]
        self.assertEqual(by_one, answers(flat(self.CALLS)))
        self.assertEqual(len(parted(by_one)), len(self.CALLS))

    def test_bring_and_want_are_undone_by_nothing_but_themselves(self):
        told = ask(enter(5, 4, 1), bring(5, 7), want(5, 6), night(1), OFFERS, QUEUE, MONEY, COUNTS, school(5))
        self.assertEqual(told[-1], [0, 6, 4, 7, 0])


if __name__ == "__main__":
    unittest.main()
