"""The calls night, offers and queue: how offers are made, stand, lapse, and are made again."""

import itertools
import unittest

from helper import (
    CLEAR, CLOSE, COUNTS, HUGE, OFFERS, QUEUE, accept, ask, ask_on, assert_refused, decline, drop, enter, house_with,
    last, night, nights, picture, places_of, rules, school, settled, transfer, want,
)

TWO = [(5, 9, 0), (3, 9, 0)]


def offered_to(told):
    """The schools in an answer of night."""
    return told[2::3]


class TestNight(unittest.TestCase):

    def test_the_day_and_each_offer(self):
        told = ask(enter(5, 2), enter(3, 1), night(1))
        self.assertEqual(told[2], [1, 0, 5, 1, 1, 3, 1, 2, 5, 1])

    def test_nobody_is_there(self):
        self.assertEqual(ask(night(1), night(30), night(2)), [[1], [31], [33]])

    def test_nobody_waits(self):
        told = ask(enter(5, 1), night(1), night(1), accept(0), night(1))
        self.assertEqual(told[1:], [[1, 0, 5, 1], [2], [1, 5], [3]])

    def test_day_of_an_offer_is_the_day_behind_the_night(self):
        told = ask(night(7), enter(5, 1), night(1), OFFERS)
        self.assertEqual(told[2:], [[8, 0, 5, 8], [1, 0, 5, 8, 11]])

    def test_only_offers_of_these_nights_are_told(self):
        told = ask(enter(5, 1), night(1), enter(3, 1), night(1), OFFERS)
        self.assertEqual(told[3:], [[2, 1, 3, 2], [2, 4, 0, 5, 1, 4, 4, 1, 3, 2, 5]])

    def test_numbers_go_on(self):
        told = ask(enter(5, 1), night(1), accept(0), enter(3, 1), night(1), decline(1), want(3, 2), night(1))
        self.assertEqual([told[1], told[4], told[7]], [[1, 0, 5, 1], [2, 1, 3, 2], [3, 2, 3, 3, 3, 3, 3]])

    def test_bounds(self):
        self.assertEqual(ask(night(1)), [[1]])
        self.assertEqual(ask(night(2)), [[2]])
        self.assertEqual(ask(night(29)), [[29]])
        self.assertEqual(ask(night(30)), [[30]])
        for n in (0, -1, 31, 32, 1000, 1001, HUGE, -HUGE):
            assert_refused(self, house_with("", TWO, day=3), night(n), -1)

    def test_up_to_day_1000(self):
        self.assertEqual(last(*nights(1000)), [1000])
        self.assertEqual(last(*nights(990), night(10)), [1000])
        self.assertEqual(last(*nights(990), night(9), night(1)), [1000])

    def test_beyond_day_1000(self):
        for day, n in ((1000, 1), (1000, 30), (999, 2), (990, 11), (971, 30)):
            house = house_with("", TWO)
            ask_on(house, *nights(day))
            self.assertEqual(house.day, day)
            assert_refused(self, house, night(n), -9)
        self.assertEqual(last(*nights(970), night(30)), [1000])

    def test_bounds_ahead_of_day_1000(self):
        house = house_with("", TWO)
        ask_on(house, *nights(1000))
        for n in (0, 31):
            assert_refused(self, house, night(n), -1)

    def test_several_nights_are_as_one_by_one(self):
        schools = [(5, 7, 0), (3, 20, 0), (9, 4, 0), (1, 12, 0)]
        for text in ("", "places 5\nanswer 1", "places 3\ncap 2\nanswer 2", "cap 9\nplaces 9\nanswer 4"):
            for n in range(1, 31):
                at_once = house_with(text, schools)
                ask_on(at_once, night(n))
                one_by_one = house_with(text, schools)
                ask_on(one_by_one, *[night(1)] * n)
                self.assertEqual(picture(at_once), picture(one_by_one), (text, n))

    def test_behind_close(self):
        told = ask(rules("start 1"), enter(5, 3), night(1), CLOSE, night(1), night(30), OFFERS, COUNTS, school(5))
        self.assertEqual(told[4:7], [[2], [32], [0]])
        self.assertEqual(told[7], [32, 1, 0, 0, 3, 1, 0, 0])
        self.assertEqual(told[8], [0, 3, 0, 0, 0])

    def test_behind_close_with_all_refusals(self):
        house = house_with("start 1", TWO)
        ask_on(house, night(1), CLOSE, *nights(989))
        self.assertEqual(house.day, 990)
        assert_refused(self, house, night(31), -1)
        assert_refused(self, house, night(11), -9)
        self.assertEqual(ask_on(house, night(10)), [[1000]])


class TestWhoIsOffered(unittest.TestCase):

    def offered(self, text, schools, *calls):
        """The schools to which the first night behind these offers places."""
        told = ask(rules(text), *[enter(number, wanted) for number, wanted in schools], *calls, night(1))
        return offered_to(told[-1])

    def test_in_turn(self):
        schools = [(50, 3), (3, 1), (700, 2)]
        self.assertEqual(self.offered("", schools), [50, 3, 700, 50, 700, 50])

    def test_order_of_entering_not_of_numbers(self):
        for numbers in itertools.permutations((1, 20, 300)):
            schools = [(number, 2) for number in numbers]
            self.assertEqual(self.offered("places 4", schools), list(numbers) + [numbers[0]])

    def test_the_least_load_first(self):
        house = settled("", [(5, 4, 0), (3, 4, 0), (9, 4, 0)], has=[5, 5, 3])
        self.assertEqual(offered_to(ask_on(house, night(1))[0]), [9, 3, 9, 5, 3, 9, 5, 3, 9])

    def test_an_open_offer_is_load(self):
        told = ask(rules("places 3"), enter(5, 2), night(1), enter(3, 2), accept(0), night(1), OFFERS)
        self.assertEqual(told[2], [1, 0, 5, 1, 1, 5, 1])
        self.assertEqual(told[5], [2, 2, 3, 2])
        told = ask(rules("places 4"), enter(5, 1), night(1), enter(3, 3), want(5, 3), night(1))
        self.assertEqual(offered_to(told[-1]), [3, 5, 3])

    def test_places_are_the_bound(self):
        for places in (2, 3, 4, 5):
            self.assertEqual(self.offered(f"places {places}", [(5, 4), (3, 4)]), [5, 3, 5, 3, 5][:places])

    def test_places_taken_and_offered_count(self):
        told = ask(rules("places 5"), enter(5, 3), night(1), accept(0), accept(1), enter(3, 3), night(1), OFFERS)
        self.assertEqual(told[-2], [2, 3, 3, 2, 4, 3, 2])
        self.assertEqual(told[-1][0], 3)

    def test_60_places(self):
        schools = [(number, 20) for number in range(1, 31)]
        self.assertEqual(self.offered("places 60", schools), list(range(1, 31)) * 2)
        self.assertEqual(self.offered("places 60", schools[:6]), list(range(1, 7)) * 4)

    def test_cap_is_the_bound(self):
        for cap in range(1, 10):
            self.assertEqual(self.offered(f"places 60\ncap {cap}", [(5, 20), (3, 2)]),
                             [5, 3, 5, 3, 5, 5, 5, 5, 5, 5, 5][:2 * cap if cap < 3 else cap + 2])

    def test_cap_counts_places_and_offers(self):
        told = ask(rules("cap 3"), enter(5, 2), night(1), accept(0), want(5, 20), night(1), night(1))
        self.assertEqual([told[2], told[5], told[6]], [[1, 0, 5, 1, 1, 5, 1], [2, 2, 5, 2], [3]])

    def test_wanted_is_the_bound(self):
        for wanted in (1, 2, 3, 4):
            self.assertEqual(self.offered("", [(5, wanted)]), [5] * wanted)
        self.assertEqual(self.offered("", [(5, 3)], want(5, 0)), [])
        self.assertEqual(self.offered("", [(5, 3), (3, 1)], want(5, 1), want(3, 2)), [5, 3, 3])

    def test_nothing_is_offered_by_day(self):
        told = ask(rules("places 2"), enter(5, 2), night(1), decline(0), OFFERS, want(5, 3), OFFERS, night(1))
        self.assertEqual([told[4], told[6]], [[1, 1, 5, 1, 4]] * 2)
        self.assertEqual(told[7], [2, 2, 5, 2])

    def test_less_wanted_than_cap_does_not_hold_up_others(self):
        self.assertEqual(self.offered("places 9\ncap 9", [(5, 1), (3, 1), (9, 20)]), [5, 3, 9] + [9] * 6)


class TestLapse(unittest.TestCase):

    def test_last_day_and_the_day_behind_it(self):
        for days in (1, 2, 3, 29, 30):
            text = f"answer {days}"
            calls = [rules(text), enter(5, 1), night(1), *nights(days)]
            self.assertEqual(last(*calls, OFFERS), [1, 0, 5, 1, 1 + days])
            self.assertEqual(last(*calls, accept(0)), [1, 5])
            self.assertEqual(last(*calls, decline(0)), [0, 5])
            self.assertEqual(last(*calls, night(1), OFFERS), [0])
            self.assertEqual(last(*calls, night(1), accept(0)), [-5])
            self.assertEqual(last(*calls, night(1), decline(0)), [-5])

    def test_by_default_three_days(self):
        calls = [enter(5, 1), night(1)]
        self.assertEqual(last(*calls, night(3), accept(0)), [1, 5])
        self.assertEqual(last(*calls, night(4), accept(0)), [-5])

    def test_its_school_wants_one_less(self):
        told = ask(rules("answer 1\nplaces 2"), enter(5, 4), night(1), night(1), school(5), night(1), school(5))
        self.assertEqual([told[4], told[6]], [[0, 4, 2, 0, 0], [0, 2, 2, 0, 0]])

    def test_places_and_other_schools_stay(self):
        house = settled("answer 1", [(5, 2, 0), (3, 2, 0)], has=[5, 3], offers=[5])
        ask_on(house, night(2))
        self.assertEqual(places_of(house, 5), (1, 1, 0))
        self.assertEqual(places_of(house, 3), (1, 2, 1))

    def test_it_lapses_ahead_of_the_offers_of_that_night(self):
        told = ask(rules("places 2\nanswer 1"), enter(5, 2), night(1), enter(3, 9), night(1), night(1))
        self.assertEqual(told[4:], [[2], [3, 2, 3, 3, 3, 3, 3]])

    def test_a_school_that_lets_lapse_is_offered_what_it_still_wants(self):
        told = ask(rules("places 2\nanswer 1"), enter(5, 3), night(1), night(2), school(5), night(2), school(5))
        self.assertEqual(told[3], [3, 2, 5, 3])
        self.assertEqual(told[4], [0, 1, 1, 0, 0])
        self.assertEqual(told[5:], [[5], [0, 0, 0, 0, 0]])

    def test_only_offers_still_open_are_told(self):
        told = ask(rules("places 2\nanswer 1"), enter(5, 20), night(3), COUNTS)
        self.assertEqual(told[2], [3, 2, 5, 3, 3, 5, 3])
        self.assertEqual(told[3][4], 4)
        told = ask(rules("places 2\nanswer 1"), enter(5, 3), night(30), OFFERS, COUNTS)
        self.assertEqual(told[2:], [[30], [0], [30, 1, 0, 0, 3, 0, 0, 0]])

    def test_thirty_nights_of_lapses(self):
        told = ask(rules("places 2\ncap 1\nanswer 1"), enter(5, 20), enter(3, 20), night(30), school(5), OFFERS)
        self.assertEqual(told[3], [30, 28, 5, 29, 29, 3, 29])
        self.assertEqual(told[4], [0, 6, 1, 0, 0])
        self.assertEqual(told[5], [2, 4, 28, 5, 29, 30, 4, 29, 3, 29, 30])

    def test_offers_of_several_days_lapse_each_on_its_own(self):
        told = ask(rules("answer 2"), enter(5, 1), night(1), enter(3, 1), night(1), night(1), OFFERS, night(1), OFFERS,
                   night(1), OFFERS)
        self.assertEqual(told[6::2], [[2, 4, 0, 5, 1, 3, 4, 1, 3, 2, 4], [1, 1, 3, 2, 4], [0]])

    def test_an_answer_ends_it(self):
        told = ask(rules("answer 1"), enter(5, 2), night(1), accept(0), decline(1), night(2), school(5))
        self.assertEqual(told[5:], [[3], [1, 1, 0, 0, 1]])


class TestOffers(unittest.TestCase):

    def test_none(self):
        self.assertEqual(ask(OFFERS, enter(5, 2), OFFERS), [[0], [0], [0]])

    def test_one(self):
        self.assertEqual(last(enter(5, 1), night(1), OFFERS), [1, 0, 5, 1, 4])

    def test_two(self):
        told = last(rules("answer 7"), enter(5, 1), night(1), enter(3, 1), night(1), OFFERS)
        self.assertEqual(told, [2, 4, 0, 5, 1, 8, 4, 1, 3, 2, 9])

    def test_three_and_those_left(self):
        told = ask(enter(5, 3), night(1), OFFERS, accept(1), OFFERS, decline(0), OFFERS, accept(2), OFFERS)
        self.assertEqual(told[2::2], [
            [3, 4, 0, 5, 1, 4, 4, 1, 5, 1, 4, 4, 2, 5, 1, 4], [2, 4, 0, 5, 1, 4, 4, 2, 5, 1, 4], [1, 2, 5, 1, 4], [0],
        ])

    def test_60_by_rising_numbers(self):
        calls = [rules("places 60"), *[enter(number, 2) for number in range(30, 0, -1)], night(1)]
        told = last(*calls, OFFERS)
        self.assertEqual(told[0], 60)
        self.assertEqual(told[1::5], [4] * 60)
        self.assertEqual(told[2::5], list(range(60)))
        self.assertEqual(told[3::5], list(range(30, 0, -1)) * 2)

    def test_it_changes_nothing(self):
        house = house_with("", TWO, offers=[5, 3])
        before = picture(house)
        ask_on(house, OFFERS, OFFERS)
        self.assertEqual(picture(house), before)

    def test_gone_behind_clear(self):
        self.assertEqual(ask(enter(5, 2), night(1), CLEAR, OFFERS, enter(5, 1), night(1))[3:], [[0], [0], [1, 0, 5, 1]])


class TestQueue(unittest.TestCase):

    def test_nobody(self):
        self.assertEqual(ask(QUEUE), [[0]])
        self.assertEqual(last(enter(5, 2), want(5, 0), QUEUE), [0])

    def test_as_places_would_be_offered(self):
        self.assertEqual(last(enter(50, 3), enter(3, 1), enter(700, 2), QUEUE), [6, 50, 3, 700, 50, 700, 50])

    def test_more_than_there_are_places(self):
        told = ask(rules("places 2\ncap 3"), enter(5, 20), enter(3, 2), QUEUE, night(1), QUEUE)
        self.assertEqual(told[3], [5, 5, 3, 5, 3, 5])
        self.assertEqual(told[5], [3, 5, 3, 5])

    def test_cap_and_wanted(self):
        for cap in range(1, 10):
            told = last(rules(f"cap {cap}"), enter(5, 20), QUEUE)
            self.assertEqual(told, [cap] + [5] * cap)
            told = last(rules(f"cap {cap}"), enter(5, 4), QUEUE)
            self.assertEqual(told, [min(cap, 4)] + [5] * min(cap, 4))

    def test_longest(self):
        schools = list(range(30, 0, -1))
        told = last(rules("cap 9"), *[enter(number, 20) for number in schools], QUEUE)
        self.assertEqual(told, [270] + schools * 9)

    def test_it_begins_at_the_loads(self):
        house = settled("places 60", [(5, 4, 0), (3, 4, 0), (9, 4, 0)], has=[5, 5, 3], offers=[3])
        self.assertEqual(ask_on(house, QUEUE), [[8, 9, 9, 5, 3, 9, 5, 3, 9]])

    def test_it_foretells_the_night(self):
        for text in ("", "cap 2", "cap 9\nplaces 60", "places 3"):
            house = settled(text, [(5, 4, 0), (3, 6, 0), (9, 1, 0)], has=[3], offers=[5])
            told = ask_on(house, QUEUE, night(1))
            free = house.rules.one("places") - 2
            self.assertEqual(offered_to(told[1]), told[0][1:][:free])

    def test_who_has_all_it_wants_or_cap_is_not_in_it(self):
        house = settled("cap 2", [(5, 1, 0), (3, 9, 0), (9, 2, 0)], has=[5, 3, 3])
        self.assertEqual(ask_on(house, QUEUE), [[2, 9, 9]])

    def test_behind_close(self):
        calls = [rules("start 1\nplaces 3\ncap 3"), enter(5, 2), enter(3, 9), night(1), accept(1), CLOSE]
        self.assertEqual(last(*calls[:-1], QUEUE), [2, 3, 3])
        self.assertEqual(last(*calls, QUEUE), [4, 5, 5, 3, 3])
        self.assertEqual(last(*calls, night(9), QUEUE), [4, 5, 5, 3, 3])

    def test_it_changes_nothing(self):
        for closed in (False, True):
            house = settled("places 5", TWO, has=[5], offers=[5, 3], day=60)
            if closed:
                ask_on(house, CLOSE)
            before = picture(house)
            told = ask_on(house, QUEUE, QUEUE)
            self.assertEqual(told[0], told[1])
            self.assertEqual(picture(house), before)


class TestFreePlaces(unittest.TestCase):
    """What comes free by day is offered in the next night; all by calls alone."""

    START = [rules("places 3\nfee 333\nback 30 50\nanswer 9"), enter(5, 3), enter(3, 3), night(1)]

    def test_the_night_ahead(self):
        self.assertEqual(last(*self.START), [1, 0, 5, 1, 1, 3, 1, 2, 5, 1])

    def test_accept_frees_nothing(self):
        told = ask(*self.START, accept(0), accept(1), accept(2), night(1), school(5), school(3))
        self.assertEqual(told[4:], [[1, 5], [1, 3], [2, 5], [2], [2, 3, 0, 0, 1], [1, 3, 0, 0, 1]])

    def test_declined(self):
        told = ask(*self.START, decline(0), night(1), school(5), school(3))
        self.assertEqual(told[4:], [[2, 5], [2, 3, 5, 2], [0, 2, 2, 0, 0], [0, 3, 1, 0, 0]])
        told = ask(*self.START, decline(0), decline(2), night(1), school(5), school(3))
        self.assertEqual(told[4:], [[2, 5], [1, 5], [2, 3, 5, 2, 4, 3, 2], [0, 1, 1, 0, 0], [0, 3, 2, 0, 0]])

    def test_dropped(self):
        told = ask(*self.START, accept(0), accept(2), drop(5, 1), OFFERS, night(1))
        self.assertEqual(told[6:], [[166, 50], [1, 1, 3, 1, 10], [2, 3, 5, 2]])
        told = ask(*self.START, accept(0), accept(2), drop(5, 2), night(1), school(5), school(3))
        self.assertEqual(told[6:], [[332, 50], [2, 3, 5, 2, 4, 3, 2], [0, 1, 1, 0, 0], [0, 3, 2, 0, 0]])

    def test_transferred(self):
        told = ask(*self.START, accept(0), transfer(5, 3), night(1), school(5), school(3), OFFERS)
        self.assertEqual(told[4:], [
            [1, 5], [0], [2], [0, 2, 1, 0, 0], [1, 3, 1, 0, 1], [2, 4, 1, 3, 1, 10, 4, 2, 5, 1, 10],
        ])

    def test_an_open_offer_keeps_b_from_waiting(self):
        calls = [enter(5, 1), enter(3, 1), night(1), accept(0)]
        self.assertEqual(last(*calls, transfer(5, 3)), [-7])
        self.assertEqual(last(*calls, night(3), transfer(5, 3)), [-7])
        self.assertEqual(last(*calls, night(4), transfer(5, 3)), [-7])
        self.assertEqual(last(*calls, night(4), want(3, 1), transfer(5, 3)), [0])

    def test_wanted_less_open_offers(self):
        told = ask(*self.START, want(5, 1), want(5, 2), night(1), want(3, 20), night(1))
        self.assertEqual(told[4:], [[-6], [0], [2], [19], [3]])

    def test_who_wants_more_by_day_is_offered_it_by_night(self):
        told = ask(enter(5, 1), night(1), accept(0), want(5, 3), OFFERS, night(1))
        self.assertEqual(told[3:], [[2], [0], [2, 1, 5, 2, 2, 5, 2]])

    def test_drop_and_transfer_need_taken_places(self):
        calls = [enter(5, 2), enter(3, 1), want(3, 20), night(1)]
        self.assertEqual(last(*calls, drop(5, 1)), [-6])
        self.assertEqual(last(*calls, transfer(5, 3)), [-6])
        self.assertEqual(last(*calls, accept(0), drop(5, 2)), [-6])
        self.assertEqual(last(*calls, accept(0), drop(5, 1)), [0, 0])

    def test_rules_behind_the_first_day(self):
        self.assertEqual(ask(night(1), rules("")), [[1], [-4]])
        self.assertEqual(ask(night(1), rules([256])), [[1], [-1]])
        self.assertEqual(ask(night(1), CLEAR, rules("x")), [[1], [0], [1, 1, 1]])

    def test_enter_later(self):
        self.assertEqual(ask(enter(5, 1), night(9), enter(3, 1), enter(5, 1))[2:], [[1], [-3]])


class TestPercentByDay(unittest.TestCase):

    def dropped(self, text, day):
        """A drop of one place on that day."""
        return last(rules(text + "\nanswer 30"), enter(5, 9), *nights(day), accept(0), drop(5, 1))

    def test_each_pair_and_its_neighbours(self):
        text = "start 28\nfee 333\nback 20 80 10 50 0 10"
        percents = {1: 80, 7: 80, 8: 80, 9: 50, 17: 50, 18: 50, 19: 10, 27: 10, 28: 10, 29: 0, 30: 0}
        for day, percent in percents.items():
            self.assertEqual(self.dropped(text, day), [333 * percent // 100, percent], day)

    def test_without_a_pair_for_the_last_days(self):
        text = "start 20\nfee 99\nback 3 75"
        for day, percent in {16: 75, 17: 75, 18: 0, 19: 0, 20: 0, 21: 0}.items():
            self.assertEqual(self.dropped(text, day), [99 * percent // 100, percent], day)

    def test_more_days_ahead_than_there_are(self):
        self.assertEqual(self.dropped("start 5\nback 9 90 5 50 4 40", 1), [400, 40])
        self.assertEqual(self.dropped("start 5\nback 9 90 5 50", 1), [0, 0])

    def test_rounded_down_for_each(self):
        told = ask(rules("fee 333\nback 0 50"), enter(5, 3), night(1), accept(0), accept(1), accept(2), drop(5, 3))
        self.assertEqual(told[-1], [498, 50])

    def test_counts_tells_the_same_percent(self):
        calls = [rules("start 10\nback 5 70 2 30"), *[night(1)] * 11]
        told = [last(*calls[:1 + day], COUNTS)[6] for day in range(12)]
        self.assertEqual(told, [70, 70, 70, 70, 70, 70, 30, 30, 30, 0, 0, 0])


if __name__ == "__main__":
    unittest.main()
