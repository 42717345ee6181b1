"""The calls refuse, spare, gain, more and late: with what they tell all can be filled, with more of it not."""

import unittest

from tests import oracle
from tests.tools import CAN, PLAN, REFUSE, TEXT, Draws, ask, ask_day, car, day_text, drawn_day, filled_days, gain, gone
from tests.tools import greatest_day, late, load, more, spare, supply, text_answer, unfilled_day

GREATEST = 4294967295
SHORT = ([5, 4], [1, 1], [(0, 2, 10, 5)])


class Refuse(unittest.TestCase):
    def refuse(self, supplies, cars):
        told = ask_day((supplies, [1] * len(supplies), cars), REFUSE)[0]
        self.assertEqual(told[0], 0)
        self.assertEqual(told[1], len(told) - 2)
        return told[2:]

    def test_none(self):
        self.assertEqual(self.refuse([0], []), [])
        self.assertEqual(self.refuse([5, 5], [(0, 2, 10, 5)]), [])
        self.assertEqual(self.refuse([0], [(0, 1, 0, 1)]), [])

    def test_one(self):
        self.assertEqual(self.refuse([5, 4], [(0, 2, 10, 5)]), [0])
        self.assertEqual(self.refuse([9, 9], [(0, 2, 1, 5), (0, 1, 10, 20), (0, 2, 2, 5)]), [1])

    def test_of_as_few_cars_the_one_that_wants_least(self):
        self.assertEqual(self.refuse([10], [(0, 1, 5, 9), (0, 1, 4, 9), (0, 1, 3, 9)]), [2])
        self.assertEqual(self.refuse([10], [(0, 1, 6, 9), (0, 1, 5, 9), (0, 1, 1, 9)]), [1])
        self.assertEqual(self.refuse([10], [(0, 1, 3, 9), (0, 1, 5, 9), (0, 1, 4, 9)]), [0])

    def test_fewer_cars_go_ahead_of_less_that_is_wanted(self):
        self.assertEqual(self.refuse([10], [(0, 1, 2, 9), (0, 1, 2, 9), (0, 1, 10, 20), (0, 1, 2, 9)]), [2])

    def test_of_these_the_least_number(self):
        self.assertEqual(self.refuse([4], [(0, 1, 4, 4), (0, 1, 4, 4)]), [0])
        self.assertEqual(self.refuse([4], [(0, 1, 0, 4), (0, 1, 4, 4), (0, 1, 4, 4)]), [1])
        self.assertEqual(self.refuse([4, 4], [(0, 1, 4, 4), (1, 2, 4, 4), (1, 2, 4, 4), (0, 1, 4, 4)]), [0, 1])

    def test_two_and_more(self):
        self.assertEqual(self.refuse([4], [(0, 1, 4, 4), (0, 1, 3, 4), (0, 1, 4, 4)]), [0, 1])
        self.assertEqual(self.refuse([4], [(0, 1, 4, 4), (0, 1, 2, 4), (0, 1, 4, 4), (0, 1, 2, 4)]), [0, 2])
        self.assertEqual(self.refuse([0], [(0, 1, 1, 1)] * 6), [0, 1, 2, 3, 4, 5])
        self.assertEqual(self.refuse([1], [(0, 1, 1, 1)] * 6), [0, 1, 2, 3, 4])

    def test_those_alone_that_need_something(self):
        self.assertEqual(self.refuse([0], [(0, 1, 1, 1), (0, 1, 0, 1), (0, 1, 1, 1)]), [0, 2])

    def test_each_set_of_drawn_days(self):
        draws = Draws(51)
        counts = {}
        for turn in range(120):
            supplies, prices, cars = drawn_day(draws, draws.between(1, 6), draws.between(1, 5), 9, 9, 6, [1])
            away = self.refuse(supplies, cars)
            self.assertEqual(away, oracle.refused_of(supplies, cars), (supplies, cars))
            self.goes_on_without(supplies, cars, away)
            counts[len(away)] = counts.get(len(away), 0) + 1
        self.assertTrue(all(counts.get(count, 0) >= 5 for count in range(4)), counts)

    def goes_on_without(self, supplies, cars, away):
        """Without these all others can be filled, by the calls themselves; with one of them back not."""
        start = load(day_text(supplies, [1] * len(supplies), cars))
        self.assertEqual(ask(start, *[gone(k) for k in reversed(away)], CAN, REFUSE)[-2:], [[0, 1], [0, 0]])
        for kept in away:
            told = ask(start, *[gone(k) for k in reversed(away) if k != kept], CAN)[-1]
            self.assertEqual(told[:2], [0, 0], (supplies, cars))

    def test_the_greatest_days(self):
        for supplies, prices, cars in (greatest_day(), unfilled_day()):
            self.assertEqual(self.refuse(supplies, cars), oracle.refused_of(supplies, cars))
        self.assertEqual(self.refuse(unfilled_day()[0], unfilled_day()[2]), [1, 2, 4, 5])

    def test_prices_do_not_count_and_changes_do(self):
        day = ([4, 0], [9, 1], [(0, 1, 4, 4), (0, 2, 3, 3)])
        self.assertEqual(ask_day(day, REFUSE, supply(1, 3), REFUSE, car(0, 2, 5, 3, "b"), REFUSE, gone(1), REFUSE)[0::2],
                         [[0, 1, 1], [0, 0], [0, 1, 0], [0, 0]])


class Spare(unittest.TestCase):
    def test_by_hand(self):
        day = ([5, 5, 0], [1, 2, 3], [(0, 3, 8, 5)])
        self.assertEqual(ask_day(day, spare(0), spare(1), spare(2)), [[0, 2], [0, 2], [0, 0]])

    def test_no_car_and_nothing_needed(self):
        self.assertEqual(ask_day(([60, 0], [1, 2], []), spare(0), spare(1)), [[0, 60], [0, 0]])
        self.assertEqual(ask_day(([7, 0], [1, 2], [(0, 2, 0, 3)]), spare(0), spare(1)), [[0, 7], [0, 0]])

    def test_nothing_to_spare(self):
        self.assertEqual(ask_day(([5, 5], [1, 2], [(0, 2, 10, 5)]), spare(0), spare(1)), [[0, 0], [0, 0]])

    def test_above_what_the_rates_take(self):
        self.assertEqual(ask_day(([9, 9], [1, 2], [(0, 2, 10, 5)]), spare(0), spare(1)), [[0, 4], [0, 4]])

    def test_refusals(self):
        self.assertEqual(ask_day(([5, 5], [1, 2], []), spare(2), spare(12), spare(GREATEST)), [[-4]] * 3)
        self.assertEqual(ask_day(SHORT, spare(0), spare(1), spare(2), spare(GREATEST)), [[-5], [-5], [-4], [-4]])

    def test_a_unit_more_is_too_much(self):
        seen = 0
        for supplies, prices, cars in filled_days(52, 60) + [greatest_day()]:
            start = load(day_text(supplies, prices, cars))
            for slot, there in enumerate(supplies):
                told = ask(start, spare(slot))[1]
                self.assertEqual([told[0], len(told)], [0, 2])
                self.assertTrue(0 <= told[1] <= there)
                left = there - told[1]
                self.assertEqual(ask(start, supply(slot, left), CAN, spare(slot))[2:], [[0, 1], [0, 0]])
                if left > 0:
                    self.assertEqual(ask(start, supply(slot, left - 1), CAN)[2][:2], [0, 0], (supplies, cars, slot))
                self.assertTrue(oracle.day_fills(oracle.with_supply(supplies, slot, -told[1]), cars))
                self.assertFalse(oracle.day_fills(oracle.with_supply(supplies, slot, -told[1] - 1), cars))
                seen += 0 < left < there
        self.assertGreater(seen, 30)


class Gain(unittest.TestCase):
    def test_by_hand(self):
        day = ([5, 5, 5], [9, 1, 4], [(0, 3, 8, 6)])
        self.assertEqual(ask_day(day, gain(0), gain(1), gain(2)), [[0, 0], [0, 3], [0, 0]])
        day = ([1, 1, 9], [2, 5, 9], [(0, 3, 4, 9)])
        self.assertEqual(ask_day(day, gain(0), gain(1), gain(2)), [[0, 7], [0, 4], [0, 0]])

    def test_no_car_and_where_the_rate_binds(self):
        self.assertEqual(ask_day(([0, 60], [1, 2], []), gain(0), gain(1)), [[0, 0], [0, 0]])
        self.assertEqual(ask_day(([5, 5], [1, 2], [(0, 2, 8, 5)]), gain(0), gain(1)), [[0, 0], [0, 0]])

    def test_a_slot_with_nothing(self):
        self.assertEqual(ask_day(([0, 5], [1, 900], [(0, 2, 5, 5)]), gain(0), gain(1)), [[0, 899], [0, 0]])

    def test_above_sixty(self):
        day = ([60, 60], [1, 5], [(0, 2, 20, 20)] * 4)
        self.assertEqual(ask_day(day, gain(0), gain(1), PLAN)[:2], [[0, 4], [0, 0]])
        self.assertEqual(ask_day(day, supply(0, 59), gain(0), gain(1))[1:], [[0, 4], [0, 0]])

    def test_refusals(self):
        self.assertEqual(ask_day(([5, 5], [1, 2], []), gain(2), gain(12), gain(GREATEST)), [[-4]] * 3)
        self.assertEqual(ask_day(SHORT, gain(0), gain(1), gain(2), gain(GREATEST)), [[-5], [-5], [-4], [-4]])

    def test_it_is_what_plan_costs_less_after_one_unit_more(self):
        seen = 0
        for supplies, prices, cars in filled_days(53, 60) + [greatest_day()]:
            start = load(day_text(supplies, prices, cars))
            cost = ask(start, PLAN)[1][1]
            for slot, there in enumerate(supplies):
                told = ask(start, gain(slot))[1]
                if there < 60:
                    after = ask(start, supply(slot, there + 1), PLAN)[2]
                    self.assertEqual(told, [0, cost - after[1]], (supplies, prices, cars, slot))
                seen += told[1] > 0
        self.assertGreater(seen, 30)

    def test_it_is_what_no_plan_costs_less_than(self):
        seen = 0
        for supplies, prices, cars in filled_days(54, 12) + [([60] * 3, [3, 1, 2], [(0, 3, 24, 20), (1, 3, 30, 20)] * 3)]:
            cost = oracle.least_cost(supplies, prices, cars)
            told = ask_day((supplies, prices, cars), *[gain(slot) for slot in range(len(supplies))])
            for slot in range(len(supplies)):
                after = oracle.least_cost(oracle.with_supply(supplies, slot, 1), prices, cars)
                self.assertEqual(told[slot], [0, cost - after])
                seen += supplies[slot] == 60 and cost > after
        self.assertGreater(seen, 0)


class More(unittest.TestCase):
    def test_by_hand(self):
        day = ([5, 5, 9], [1, 2, 3], [(0, 2, 3, 4), (0, 3, 4, 9)])
        self.assertEqual(ask_day(day, more(0), more(1)), [[0, 5], [0, 12]])

    def test_nothing_more(self):
        self.assertEqual(ask_day(([5, 5], [1, 2], [(0, 2, 10, 5), (0, 1, 0, 20)]), more(0), more(1)), [[0, 0], [0, 0]])

    def test_what_the_others_need_stays_theirs(self):
        day = ([10], [1], [(0, 1, 2, 10), (0, 1, 3, 10), (0, 1, 4, 10)])
        self.assertEqual(ask_day(day, more(0), more(1), more(2)), [[0, 1], [0, 1], [0, 1]])

    def test_above_ninety_nine(self):
        day = ([60] * 12, [1] * 12, [(0, 12, 99, 20), (0, 12, 0, 20)])
        self.assertEqual(ask_day(day, more(0), more(1)), [[0, 141], [0, 240]])

    def test_refusals(self):
        self.assertEqual(ask_day(([5], [1], []), more(0), more(6)), [[-4], [-4]])
        self.assertEqual(ask_day(([5], [1], [(0, 1, 1, 1)]), more(1), more(GREATEST)), [[-4], [-4]])
        self.assertEqual(ask_day(SHORT, more(0), more(1), more(GREATEST)), [[-5], [-4], [-4]])

    def test_a_unit_more_is_too_much(self):
        seen = 0
        for supplies, prices, cars in filled_days(55, 60) + [greatest_day()]:
            start = load(day_text(supplies, prices, cars))
            for number, (a, b, n, r) in enumerate(cars):
                told = ask(start, more(number))[1]
                self.assertEqual([told[0], len(told)], [0, 2])
                self.assertTrue(oracle.day_fills(supplies, oracle.with_need(cars, number, told[1])))
                self.assertFalse(oracle.day_fills(supplies, oracle.with_need(cars, number, told[1] + 1)))
                if n + told[1] < 99:
                    name = "abcdef"[number]
                    self.assertEqual(ask(start, car(a, b, n + told[1], r, name), CAN, more(number))[2:], [[0, 1], [0, 0]])
                    self.assertEqual(ask(start, car(a, b, n + told[1] + 1, r, name), CAN)[2][:2], [0, 0])
                seen += told[1] > 0
        self.assertGreater(seen, 60)


class Late(unittest.TestCase):
    def test_by_hand(self):
        day = ([9, 9, 9, 9], [1, 2, 3, 4], [(0, 4, 7, 5), (1, 4, 5, 5), (0, 3, 11, 4)])
        self.assertEqual(ask_day(day, late(0), late(1), late(2)), [[0, 2], [0, 2], [0, 0]])

    def test_it_stays_before_its_b(self):
        day = ([9, 9, 9, 9], [1, 2, 3, 4], [(0, 4, 0, 5), (1, 3, 0, 5), (2, 3, 0, 1), (0, 2, 1, 1)])
        self.assertEqual(ask_day(day, late(0), late(1), late(2), late(3)), [[0, 3], [0, 1], [0, 0], [0, 1]])

    def test_it_is_bound_by_the_others_too(self):
        day = ([5, 5, 5], [1, 1, 1], [(0, 3, 5, 5), (1, 3, 7, 5)])
        self.assertEqual(ask_day(day, late(0), late(1), gone(1), late(0)), [[0, 0], [0, 0], [0, 1], [0, 2]])

    def test_slots_with_nothing(self):
        self.assertEqual(ask_day(([0, 0, 5, 0], [1] * 4, [(0, 4, 5, 5)]), late(0)), [[0, 2]])

    def test_refusals(self):
        self.assertEqual(ask_day(([5], [1], []), late(0), late(6)), [[-4], [-4]])
        self.assertEqual(ask_day(([5], [1], [(0, 1, 1, 1)]), late(1), late(GREATEST)), [[-4], [-4]])
        self.assertEqual(ask_day(SHORT, late(0), late(1), late(GREATEST)), [[-5], [-4], [-4]])

    def test_a_slot_more_is_too_late(self):
        seen = 0
        for supplies, prices, cars in filled_days(56, 80) + [greatest_day()]:
            start = load(day_text(supplies, prices, cars))
            for number, (a, b, n, r) in enumerate(cars):
                told = ask(start, late(number))[1]
                self.assertEqual([told[0], len(told)], [0, 2])
                self.assertTrue(0 <= told[1] < b - a)
                name = "abcdef"[number]
                self.assertEqual(ask(start, car(a + told[1], b, n, r, name), CAN, late(number))[2:], [[0, 1], [0, 0]])
                self.assertTrue(oracle.day_fills(supplies, oracle.with_coming(cars, number, told[1])))
                if a + told[1] + 1 < b:
                    self.assertEqual(ask(start, car(a + told[1] + 1, b, n, r, name), CAN)[2][:2], [0, 0])
                    self.assertFalse(oracle.day_fills(supplies, oracle.with_coming(cars, number, told[1] + 1)))
                    seen += told[1] > 0
        self.assertGreater(seen, 30)


class Unchanged(unittest.TestCase):
    def test_the_day_is_as_it_was(self):
        for day in (greatest_day(), unfilled_day()):
            calls = [call for k in range(6) for call in (spare(k), gain(k), more(k), late(k), TEXT)]
            for answer in ask_day(day, REFUSE, *calls)[5::5]:
                self.assertEqual(answer, text_answer(day_text(*day)))


if __name__ == "__main__":
    unittest.main()
