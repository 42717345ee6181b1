"""The calls can, asks and most: all can be filled just if no set asks too much."""

import unittest

from tests import oracle
from tests.tools import CAN, MOST, Draws, ask, ask_last, asks, car, day_text, drawn_day, gone, load, supply


def can_answer(supplies, cars):
    by, chosen = oracle.worst(supplies, cars)
    return [0, 1] if by == 0 else [0, 0, by, len(chosen)] + chosen


class Can(unittest.TestCase):
    def told(self, supplies, cars):
        return ask(load(day_text(supplies, [1] * len(supplies), cars)), CAN, MOST)[1:]

    def test_no_car(self):
        self.assertEqual(self.told([0], []), [[0, 1], [0, 0]])

    def test_just_filled_and_one_short(self):
        self.assertEqual(self.told([5, 5], [(0, 2, 10, 5)]), [[0, 1], [0, 10]])
        self.assertEqual(self.told([5, 4], [(0, 2, 10, 5)]), [[0, 0, 1, 1, 0], [0, 9]])

    def test_the_rate_binds(self):
        self.assertEqual(self.told([60, 60], [(0, 2, 9, 4)]), [[0, 0, 1, 1, 0], [0, 8]])

    def test_the_stay_binds(self):
        self.assertEqual(self.told([9, 9, 9], [(1, 2, 10, 20)]), [[0, 0, 1, 1, 0], [0, 9]])

    def test_two_that_only_together_ask_too_much(self):
        cars = [(0, 2, 6, 6), (0, 2, 6, 6), (2, 3, 1, 1)]
        self.assertEqual(self.told([6, 5, 1], cars), [[0, 0, 1, 2, 0, 1], [0, 12]])

    def test_of_several_sets_the_least_number(self):
        one_too_much = [(0, 1, 3, 2), (1, 2, 3, 2), (2, 3, 2, 2)]
        self.assertEqual(self.told([9, 9, 9], one_too_much), [[0, 0, 2, 2, 0, 1], [0, 6]])
        self.assertEqual(self.told([2, 9], [(1, 2, 2, 2), (0, 1, 3, 3)]), [[0, 0, 1, 1, 1], [0, 4]])
        self.assertEqual(self.told([4], [(0, 1, 4, 4), (0, 1, 0, 1), (0, 1, 4, 4)]), [[0, 0, 4, 2, 0, 2], [0, 4]])

    def test_nothing_supplied(self):
        self.assertEqual(self.told([0, 0], [(0, 2, 0, 1)]), [[0, 1], [0, 0]])
        self.assertEqual(self.told([0, 0], [(0, 2, 99, 20), (0, 1, 0, 1)]), [[0, 0, 99, 1, 0], [0, 0]])

    def test_all_plans_of_small_days(self):
        draws = Draws(1)
        for turn in range(300):
            supplies, prices, cars = drawn_day(draws, draws.between(1, 3), draws.between(0, 3), 4, 5, 3, [1])
            filled = len(oracle.all_plans(supplies, cars)) > 0
            told = self.told(supplies, cars)
            self.assertEqual(told[0][1], int(filled), (supplies, cars))
            self.assertEqual(told[0], can_answer(supplies, cars), (supplies, cars))

    def test_what_cannot_be_charged_is_what_the_told_set_asks_too_much_by(self):
        draws = Draws(2)
        for turn in range(300):
            supplies, prices, cars = drawn_day(draws, draws.between(1, 12), draws.between(0, 6), 60, 99, 20, [1])
            needed = sum(one[2] for one in cars)
            charged = oracle.most_of_day(supplies, cars)
            told = self.told(supplies, cars)
            self.assertEqual(told[1], [0, charged], (supplies, cars))
            self.assertEqual(told[0], can_answer(supplies, cars), (supplies, cars))
            short = 0 if told[0][1] == 1 else told[0][2]
            self.assertEqual(needed - charged, short, (supplies, cars))

    def test_changes_are_seen(self):
        text = day_text([5, 5], [1, 1], [(0, 2, 10, 5)])
        self.assertEqual(ask(load(text), car(0, 1, 1, 1, "b"), CAN, MOST, gone(0), CAN, MOST, supply(0, 0), CAN)[1:],
                         [[0, 2], [0, 0, 1, 2, 0, 1], [0, 10], [0, 1], [0, 1], [0, 1], [0], [0, 0, 1, 1, 0]])


class Asks(unittest.TestCase):
    supplies = [10, 3, 0, 20]
    cars = [(0, 2, 9, 4), (1, 4, 7, 5), (0, 4, 99, 20)]

    def told(self, *row):
        return ask_last(load(day_text(self.supplies, [1] * 4, self.cars)), asks(*row))

    def test_none_some_all(self):
        self.assertEqual(self.told(), [0, 0, 0])
        self.assertEqual(self.told(0), [0, 9, 7])
        self.assertEqual(self.told(1), [0, 7, 8])
        self.assertEqual(self.told(2), [0, 99, 33])
        self.assertEqual(self.told(0, 1), [0, 16, 12])
        self.assertEqual(self.told(0, 1, 2), [0, 115, 33])

    def test_in_any_order(self):
        self.assertEqual(self.told(1, 0), [0, 16, 12])
        self.assertEqual(self.told(2, 0, 1), [0, 115, 33])

    def test_refusals(self):
        self.assertEqual(self.told(3), [-4])
        self.assertEqual(self.told(0, 4294967295), [-4])
        self.assertEqual(self.told(1, 1), [-1])
        self.assertEqual(self.told(0, 1, 2, 0), [-1])
        self.assertEqual(self.told(1, 1, 3), [-4])
        self.assertEqual(self.told(3, 3), [-4])
        self.assertEqual(self.told(*[0] * 80), [-1])

    def test_no_car_there(self):
        text = day_text([5], [1], [])
        self.assertEqual(ask(load(text), asks(), asks(0))[1:], [[0, 0, 0], [-4]])

    def test_every_set_of_drawn_days(self):
        draws = Draws(3)
        for turn in range(12):
            supplies, prices, cars = drawn_day(draws, draws.between(1, 12), 5, 60, 99, 20, [1])
            rows = [[k for k in range(5) if number >> k & 1] for number in range(32)]
            told = ask(load(day_text(supplies, prices, cars)), *[asks(*row) for row in rows])[1:]
            for row, answer in zip(rows, told):
                chosen = [cars[k] for k in row]
                self.assertEqual(answer, [0, sum(one[2] for one in chosen), oracle.set_room(supplies, chosen)])


if __name__ == "__main__":
    unittest.main()
