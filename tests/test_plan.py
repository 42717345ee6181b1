"""The call plan: the told plan is a plan, and none costs less; and what never makes it dearer."""

import unittest

from tests import oracle
from tests.tools import CAN, PLAN, Draws, ask, ask_last, day_text, drawn_day, gone, greatest_day, load, supply


def tell(supplies, prices, cars):
    return ask_last(load(day_text(supplies, prices, cars)), PLAN)


def answer_of(plan, prices):
    return [0, oracle.cost_of(plan, prices)] + [taken for row in plan for taken in row]


class Plans(unittest.TestCase):
    def is_plan(self, told, supplies, prices, cars):
        slots = len(supplies)
        self.assertEqual(told[0], 0)
        self.assertEqual(len(told), 2 + slots * len(cars))
        plan = [told[2 + slots * k:2 + slots * (k + 1)] for k in range(len(cars))]
        for one, row in zip(cars, plan):
            self.assertEqual(sum(row), one[2])
            for slot in range(slots):
                self.assertTrue(0 <= row[slot] <= oracle.takes(one, slot))
        self.assertTrue(oracle.within(plan, supplies))
        self.assertEqual(told[1], oracle.cost_of(plan, prices))
        return plan


class Told(Plans):
    def test_no_car(self):
        self.assertEqual(tell([5, 0], [3, 4], []), [0, 0])

    def test_nothing_needed(self):
        self.assertEqual(tell([0, 0], [3, 4], [(0, 2, 0, 5)]), [0, 0, 0, 0])

    def test_the_cheap_slots_first(self):
        self.assertEqual(tell([5, 5, 5], [9, 1, 4], [(0, 3, 8, 5)]), [0, 5 + 3 * 4, 0, 5, 3])

    def test_of_equal_prices_the_earlier_slot_is_loaded(self):
        self.assertEqual(tell([5, 5, 5], [2, 2, 2], [(0, 3, 7, 4)]), [0, 14, 4, 3, 0])

    def test_of_equal_prices_among_dearer_and_cheaper(self):
        self.assertEqual(tell([4, 4, 4, 4], [7, 1, 7, 1], [(0, 4, 10, 4)]), [0, 22, 2, 4, 0, 4])

    def test_the_first_car_takes_the_most_early(self):
        cars = [(0, 2, 3, 3), (0, 2, 3, 3)]
        self.assertEqual(tell([3, 3], [1, 1], cars), [0, 6, 3, 0, 0, 3])

    def test_a_later_car_that_can_only_come_early_is_left_its_place(self):
        cars = [(0, 2, 3, 3), (0, 1, 3, 3)]
        self.assertEqual(tell([3, 3], [1, 1], cars), [0, 6, 0, 3, 3, 0])

    def test_not_all_can_be_filled(self):
        self.assertEqual(tell([5, 4], [1, 1], [(0, 2, 10, 5)]), [-5])
        self.assertEqual(tell([0], [0], [(0, 1, 1, 1)]), [-5])
        self.assertEqual(tell([60, 60], [1, 1], [(0, 2, 9, 4), (0, 2, 0, 1)]), [-5])

    def test_all_plans_of_every_day_of_two_slots_and_two_cars(self):
        stays = [(0, 1), (0, 2), (1, 2)]
        for prices in ([1, 1], [1, 2], [2, 1]):
            for number in range(3 * 3 * 3 * 3 * 2 * 2):
                digits = [number % 3, number // 3 % 3, number // 9 % 3, number // 27 % 3, number // 81 % 2, number // 162]
                cars = [stays[digits[0]] + (digits[2] + 1, 1 + digits[4]), stays[digits[1]] + (digits[3], 2 - digits[4])]
                self.same([2, 1 + digits[5]], prices, cars)

    def test_all_plans_of_drawn_days(self):
        draws = Draws(4)
        filled = 0
        for turn in range(700):
            slots = draws.between(1, 4)
            cars = draws.between(1, 3 if slots < 4 else 2)
            filled += self.same(*drawn_day(draws, slots, cars, 6, 4, 3, [0, 5, 5, 9]))
        self.assertGreater(filled, 200)

    def same(self, supplies, prices, cars):
        """Whether there is a plan; the told one is the one that all plans tell."""
        plans = oracle.all_plans(supplies, cars)
        told = tell(supplies, prices, cars)
        if not plans:
            self.assertEqual(told, [-5], (supplies, prices, cars))
            return False
        self.is_plan(told, supplies, prices, cars)
        self.assertEqual(told[1], min(oracle.cost_of(plan, prices) for plan in plans), (supplies, prices, cars))
        self.assertEqual(told, answer_of(oracle.told_of_all(plans, prices), prices), (supplies, prices, cars))
        return True

    def test_flows_of_larger_days(self):
        draws = Draws(5)
        filled = 0
        for turn in range(400):
            supplies, prices, cars = drawn_day(draws, draws.between(3, 7), draws.between(2, 6), 16, 8, 7, [1, 2, 2, 3])
            told = tell(supplies, prices, cars)
            if oracle.most_of_day(supplies, cars) < sum(one[2] for one in cars):
                self.assertEqual(told, [-5])
                continue
            filled += 1
            loads, plan = oracle.told_by_flows(supplies, prices, cars)
            self.assertEqual(oracle.loads_of(plan, len(supplies)), loads)
            self.assertEqual(told, answer_of(plan, prices), (supplies, prices, cars))
            self.assertEqual(told[1], oracle.least_cost(supplies, prices, cars))
        self.assertGreater(filled, 50)

    def test_the_greatest_day(self):
        supplies, prices, cars = greatest_day()
        told = tell(supplies, prices, cars)
        plan = self.is_plan(told, supplies, prices, cars)
        self.assertEqual(told[1], oracle.least_cost(supplies, prices, cars))
        self.assertFalse(oracle.lower_load_fills(plan, supplies, prices, cars))
        self.assertFalse(oracle.greater_take_fills(plan, cars))

    def test_the_greatest_day_at_its_bounds(self):
        supplies, prices, cars = [60] * 12, [999] * 12, [(0, 12, 99, 20)] * 6
        told = tell(supplies, prices, cars)
        plan = self.is_plan(told, supplies, prices, cars)
        self.assertEqual(told[1], 594 * 999)
        self.assertEqual(oracle.loads_of(plan, 12), [60] * 9 + [54, 0, 0])
        self.assertEqual(plan[0], [20, 20, 20, 20, 19] + [0] * 7)

    def test_sixteen_plans_in_one_list(self):
        supplies, prices, cars = greatest_day()
        told = ask(load(day_text(supplies, prices, cars)), *[PLAN] * 16)
        self.assertEqual(len(told), 17)
        for answer in told[1:]:
            self.assertEqual(answer, told[1])
            self.is_plan(answer, supplies, prices, cars)


class NeverDearer(unittest.TestCase):
    def no_worse(self, before, after, day):
        """before, after: what can and plan answer."""
        if before[0][1] == 1:
            self.assertEqual(after[0], [0, 1], day)
            self.assertLessEqual(after[1][1], before[1][1], day)
        elif after[0][1] == 0:
            self.assertLessEqual(after[0][2], before[0][2], day)

    def test_more_supply_and_a_car_less(self):
        draws = Draws(6)
        for turn in range(60):
            supplies, prices, cars = drawn_day(draws, draws.between(1, 8), draws.between(1, 5), 20, 20, 9, [1, 4, 4, 8])
            start = load(day_text(supplies, prices, cars))
            before = ask(start, CAN, PLAN)[1:]
            self.assertEqual(before[0][1] == 1, before[1] != [-5])
            for slot in range(len(supplies)):
                for more in (1, 7):
                    after = ask(start, supply(slot, supplies[slot] + more), CAN, PLAN)[2:]
                    self.no_worse(before, after, (supplies, prices, cars))
            for number in range(len(cars)):
                self.no_worse(before, ask(start, gone(number), CAN, PLAN)[2:], (supplies, prices, cars))

    def test_more_supply_where_it_is_cheap_makes_it_cheaper(self):
        start = load(day_text([1, 5], [1, 9], [(0, 2, 4, 4)]))
        self.assertEqual(ask(start, PLAN, supply(0, 2), PLAN)[1:], [[0, 28, 1, 3], [0], [0, 20, 2, 2]])

    def test_a_car_less_lets_the_others_be_filled(self):
        start = load(day_text([4, 0], [3, 3], [(0, 1, 4, 4), (0, 2, 1, 1)]))
        self.assertEqual(ask(start, PLAN, gone(1), PLAN)[1:], [[-5], [0, 1], [0, 12, 4, 0]])


if __name__ == "__main__":
    unittest.main()
