"""The call judge: whether what is handed over is a plan, and what is wrong first if not."""

import unittest
from itertools import product

from tests import oracle
from tests.tools import PLAN, ask_day, car, filled_days, gone, greatest_day, judge, price, supply, unfilled_day

GREATEST = 4294967295


class Judge(unittest.TestCase):
    # a is there in 0 and 1, needs 5, takes 4; b in 1 and 2, needs 6, takes 5.
    day = ([4, 6, 5], [1, 10, 100], [(0, 2, 5, 4), (1, 3, 6, 5)])

    def judged(self, row, *expected):
        self.assertEqual(ask_day(self.day, judge(*row)), [list(expected)], row)

    def test_plans_and_their_cost(self):
        self.judged([4, 1, 0, 0, 5, 1], 0, 0, 4 + 60 + 100)
        self.judged([4, 1, 0, 0, 1, 5], 0, 0, 4 + 20 + 500)
        self.judged([1, 4, 0, 0, 2, 4], 0, 0, 1 + 60 + 400)

    def test_more_than_it_can(self):
        self.judged([5, 0, 0, 0, 5, 1], 0, 1, 1, 0, 0)
        self.judged([0, 5, 0, 0, 1, 5], 0, 1, 1, 0, 1)
        self.judged([4, 1, 0, 0, 0, 6], 0, 1, 1, 1, 2)
        self.judged([4, 1, 0, 0, 6, 0], 0, 1, 1, 1, 1)

    def test_a_car_that_is_not_there(self):
        self.judged([4, 0, 1, 0, 5, 1], 0, 1, 1, 0, 2)
        self.judged([4, 1, 0, 1, 5, 0], 0, 1, 1, 1, 0)

    def test_the_first_car_and_its_first_such_slot(self):
        self.judged([4, 1, 1, 1, 9, 9], 0, 1, 1, 0, 2)
        self.judged([4, 9, 1, 1, 9, 9], 0, 1, 1, 0, 1)
        self.judged([4, 1, 0, 1, 9, 9], 0, 1, 1, 1, 0)
        self.judged([GREATEST] * 6, 0, 1, 1, 0, 0)

    def test_not_its_need(self):
        self.judged([4, 0, 0, 0, 5, 1], 0, 1, 2, 0, 0)
        self.judged([4, 2, 0, 0, 4, 2], 0, 1, 2, 0, 0)
        self.judged([4, 1, 0, 0, 5, 0], 0, 1, 2, 1, 0)
        self.judged([4, 1, 0, 0, 5, 2], 0, 1, 2, 1, 0)
        self.judged([0] * 6, 0, 1, 2, 0, 0)

    def test_more_than_there_is(self):
        self.judged([1, 4, 0, 0, 3, 3], 0, 1, 3, 1, 0)
        self.assertEqual(ask_day(([3, 3], [1, 1], [(0, 2, 4, 4), (0, 2, 4, 4)]), judge(4, 0, 0, 4), judge(0, 4, 0, 4),
                                 judge(2, 2, 1, 3), judge(2, 2, 2, 2)),
                         [[0, 1, 3, 0, 0], [0, 1, 3, 1, 0], [0, 1, 3, 1, 0], [0, 1, 3, 0, 0]])

    def test_the_least_kind_goes(self):
        self.judged([4, 0, 0, 0, 5, 2], 0, 1, 2, 0, 0)
        self.judged([4, 0, 0, 0, 6, 0], 0, 1, 1, 1, 1)
        self.judged([1, 4, 0, 0, 3, 2], 0, 1, 2, 1, 0)
        self.judged([1, 4, 0, 0, 2, 6], 0, 1, 1, 1, 2)
        self.judged([0, 5, 0, 0, 5, 1], 0, 1, 1, 0, 1)
        self.judged([0, 4, 0, 0, 5, 1], 0, 1, 2, 0, 0)

    def test_another_count(self):
        self.judged([4, 1, 0, 0, 5], -1)
        self.judged([4, 1, 0, 0, 5, 1, 0], -1)
        self.judged([], -1)
        self.judged([9] * 5, -1)
        self.judged([0] * 80, -1)
        self.judged([4, 1, 0], -1)

    def test_no_car(self):
        self.assertEqual(ask_day(([3, 3], [1, 1], []), judge(), judge(0), judge(0, 0)), [[0, 0, 0], [-1], [-1]])

    def test_where_not_all_can_be_filled(self):
        day = ([5, 4], [1, 1], [(0, 2, 10, 5)])
        self.assertEqual(ask_day(day, PLAN, judge(5, 5), judge(5, 4), judge(6, 4), judge(5)),
                         [[-5], [0, 1, 3, 1, 0], [0, 1, 2, 0, 0], [0, 1, 1, 0, 0], [-1]])
        self.assertEqual(ask_day(unfilled_day(), judge(*[0] * 72), judge(*[0] * 71)), [[0, 1, 2, 0, 0], [-1]])

    def test_the_told_plan(self):
        for day in filled_days(41, 60) + [greatest_day()]:
            plan = ask_day(day, PLAN)[0]
            self.assertEqual(ask_day(day, judge(*plan[2:])), [[0, 0, plan[1]]], day)

    def test_every_row_of_small_days(self):
        days = [([1, 2], [1, 3], [(0, 2, 2, 1), (1, 2, 1, 2)]), ([2, 1], [5, 0], [(0, 1, 1, 1), (0, 2, 2, 2)]),
                ([0, 2], [1, 1], [(0, 2, 1, 1), (0, 2, 0, 1)])]
        for day in days:
            rows = list(product(range(4), repeat=4))
            told = [answer for at in range(0, len(rows), 59) for answer in ask_day(day, *[judge(*r) for r in rows[at:at + 59]])]
            plans = oracle.all_plans(day[0], day[2])
            for row, answer in zip(rows, told):
                plan = (row[:2], row[2:])
                if plan in plans:
                    expected = [0, 0, oracle.cost_of(plan, day[1])]
                else:
                    expected = [0, 1] + wrong(plan, day)
                self.assertEqual(answer, expected, (day, row))

    def test_changes_are_seen(self):
        row = [4, 1, 0, 0, 5, 1]
        told = ask_day(self.day, price(0, 2), judge(*row), supply(1, 5), judge(*row), car(0, 3, 6, 4, "a"), judge(*row),
                       gone(0), judge(*row), judge(0, 5, 1))
        self.assertEqual(told[1::2] + told[-1:],
                         [[0, 0, 168], [0, 1, 3, 1, 0], [0, 1, 2, 0, 0], [-1], [0, 0, 150]])


def wrong(plan, day):
    supplies, prices, cars = day
    for number, row in enumerate(plan):
        for slot, taken in enumerate(row):
            if taken > oracle.takes(cars[number], slot):
                return [1, number, slot]
    for number, row in enumerate(plan):
        if sum(row) != cars[number][2]:
            return [2, number, 0]
    over = [slot for slot, load in enumerate(oracle.loads_of(plan, len(supplies))) if load > supplies[slot]]
    return [3, over[0], 0]


if __name__ == "__main__":
    unittest.main()
