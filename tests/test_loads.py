"""The calls loads and now: they tell of the told plan."""

import unittest

from tests import oracle
from tests.tools import LOADS, PLAN, TEXT, Draws, ask_day, car, day_text, drawn_day, filled_days, gone, greatest_day
from tests.tools import now, price, supply, text_answer, unfilled_day

GREATEST = 4294967295


def rows_of(told, slots):
    return [told[at:at + slots] for at in range(2, len(told), slots)]


class Loads(unittest.TestCase):
    def loads(self, supplies, prices, cars):
        return ask_day((supplies, prices, cars), LOADS)[0]

    def test_no_car_and_nothing_needed(self):
        self.assertEqual(self.loads([5, 0, 9], [3, 4, 1], []), [0, 0, 0, 0])
        self.assertEqual(self.loads([5, 0, 9], [3, 4, 1], [(0, 3, 0, 5)]), [0, 0, 0, 0])

    def test_one_slot(self):
        self.assertEqual(self.loads([5], [3], [(0, 1, 4, 5)]), [0, 4])

    def test_the_cheap_slots_first(self):
        self.assertEqual(self.loads([5, 5, 5], [9, 1, 4], [(0, 3, 8, 5)]), [0, 0, 5, 3])

    def test_of_equal_prices_the_later_has_the_lower_load(self):
        self.assertEqual(self.loads([5, 5, 5], [2, 2, 2], [(0, 3, 7, 4)]), [0, 4, 3, 0])
        self.assertEqual(self.loads([4, 4, 4, 4], [7, 1, 7, 1], [(0, 4, 10, 4)]), [0, 2, 4, 0, 4])
        self.assertEqual(self.loads([4, 4, 4, 4], [1, 7, 1, 7], [(0, 4, 6, 4)]), [0, 4, 0, 2, 0])

    def test_the_later_is_loaded_where_no_other_does(self):
        self.assertEqual(self.loads([5, 5], [2, 2], [(1, 2, 5, 5)]), [0, 0, 5])
        self.assertEqual(self.loads([5, 5], [2, 2], [(1, 2, 5, 5), (0, 2, 5, 5)]), [0, 5, 5])

    def test_not_all_can_be_filled(self):
        self.assertEqual(self.loads([5, 4], [1, 1], [(0, 2, 10, 5)]), [-5])
        self.assertEqual(self.loads([0], [0], [(0, 1, 1, 1)]), [-5])
        self.assertEqual(self.loads(*unfilled_day()), [-5])

    def test_all_plans_of_small_days(self):
        draws = Draws(21)
        filled = 0
        for turn in range(300):
            slots = draws.between(1, 4)
            day = drawn_day(draws, slots, draws.between(0, 3 if slots < 4 else 2), 6, 4, 3, [0, 5, 5, 9])
            plans = oracle.all_plans(day[0], day[2])
            expected = [0] + oracle.loads_of(oracle.told_of_all(plans, day[1]), slots) if plans else [-5]
            self.assertEqual(self.loads(*day), expected, day)
            filled += len(plans) > 0
        self.assertGreater(filled, 100)

    def test_they_are_the_plans_and_cost_what_it_costs(self):
        for day in filled_days(22, 60):
            slots = len(day[0])
            loads, plan = ask_day(day, LOADS, PLAN)
            self.assertEqual(loads[1:], oracle.loads_of(rows_of(plan, slots), slots), day)
            self.assertEqual(sum(load * cost for load, cost in zip(loads[1:], day[1])), plan[1])

    def test_flows_of_larger_days(self):
        for day in filled_days(23, 20):
            self.assertEqual(self.loads(*day), [0] + oracle.told_by_flows(*day)[0], day)

    def test_the_greatest_day(self):
        loads = self.loads(*greatest_day())[1:]
        self.assertFalse(oracle.lower_load_fills([loads], *greatest_day()))
        self.assertTrue(oracle.day_fills(loads, greatest_day()[2]))
        self.assertEqual(sum(loads), sum(one[2] for one in greatest_day()[2]))

    def test_changes_are_seen(self):
        day = ([4, 4], [1, 2], [(0, 2, 5, 4)])
        told = ask_day(day, LOADS, price(0, 3), LOADS, supply(1, 2), LOADS, car(0, 2, 6, 4, "a"), LOADS, gone(0), LOADS)
        self.assertEqual(told[0::2], [[0, 4, 1], [0, 1, 4], [0, 3, 2], [0, 4, 2], [0, 0, 0]])


class Now(unittest.TestCase):
    day = ([10, 5, 8], [5, 9, 5], [(0, 3, 10, 5), (1, 3, 6, 4)])

    def test_first_between_last(self):
        told = ask_day(self.day, PLAN, now(0), now(1), now(2))
        self.assertEqual(told, [[0, 92, 5, 1, 4, 0, 2, 4], [0, 5, 5, 0, 6], [0, 1, 4, 2, 4], [0, 4, 0, 4, 0]])

    def test_one_slot(self):
        self.assertEqual(ask_day(([9], [1], [(0, 1, 4, 5), (0, 1, 5, 5)]), now(0)), [[0, 4, 0, 5, 0]])

    def test_a_car_that_is_gone_by_then_and_one_that_is_still_to_come(self):
        day = ([9, 9, 9], [1, 1, 1], [(0, 1, 4, 5), (2, 3, 5, 5)])
        self.assertEqual(ask_day(day, now(0), now(1), now(2)), [[0, 4, 0, 0, 5], [0, 0, 0, 0, 5], [0, 0, 0, 5, 0]])

    def test_no_car(self):
        self.assertEqual(ask_day(([9, 9], [1, 1], []), now(0), now(1), now(2)), [[0], [0], [-4]])

    def test_no_such_slot(self):
        for slot in (3, 12, GREATEST):
            self.assertEqual(ask_day(self.day, now(slot)), [[-4]])

    def test_not_all_can_be_filled(self):
        day = ([5, 4], [1, 1], [(0, 2, 10, 5)])
        self.assertEqual(ask_day(day, now(0), now(1), now(2), now(GREATEST)), [[-5], [-5], [-4], [-4]])

    def test_it_is_the_told_plans(self):
        for day in filled_days(24, 40) + [greatest_day()]:
            slots = len(day[0])
            told = ask_day(day, PLAN, *[now(slot) for slot in range(slots)])
            for slot in range(slots):
                expected = [0]
                for row, one in zip(rows_of(told[0], slots), day[2]):
                    expected += [row[slot], one[2] - sum(row[:slot + 1])]
                self.assertEqual(told[1 + slot], expected, day)

    def test_the_day_is_as_it_was(self):
        self.assertEqual(ask_day(self.day, now(0), LOADS, TEXT)[2], text_answer(day_text(*self.day)))


if __name__ == "__main__":
    unittest.main()
