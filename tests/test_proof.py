"""The calls proof and proves: what any sets prove no plan costs less than, and the told ones prove it."""

import unittest
from itertools import product

from tests import oracle
from tests.tools import PLAN, PROOF, Draws, ask, ask_day, car, day_text, drawn_day, filled_days, gone, greatest_day
from tests.tools import load, price, proves, supply, unfilled_day

GREATEST = 4294967295


def told_sets(told):
    """The sets' numbers in an answer of proof."""
    sets = []
    at = 2
    while at < len(told):
        count = told[at + 2]
        sets.append(sum(2 ** k for k in told[at + 3:at + 3 + count]))
        at += 3 + count
    assert len(sets) == told[1] and at == len(told)
    return sets


class Proof(unittest.TestCase):
    def proof(self, supplies, prices, cars):
        return ask_day((supplies, prices, cars), PROOF)[0]

    def test_one_price(self):
        self.assertEqual(self.proof([5], [7], [(0, 1, 3, 3)]), [0, 0])
        self.assertEqual(self.proof([5, 5, 5], [2, 2, 2], [(0, 3, 7, 4)]), [0, 0])
        self.assertEqual(self.proof([5, 5], [0, 0], []), [0, 0])

    def test_several_prices_rising(self):
        self.assertEqual(self.proof([5, 5, 5], [9, 1, 4], [(0, 3, 8, 5)]), [0, 2, 4, 3, 1, 0, 9, 0, 0])
        self.assertEqual(self.proof([5, 5, 5], [1, 9, 4], [(0, 3, 12, 5)]), [0, 2, 4, 7, 1, 0, 9, 2, 1, 0])

    def test_each_of_equal_prices_once(self):
        self.assertEqual(self.proof([4, 4, 4, 4], [7, 1, 7, 1], [(0, 4, 10, 4)]), [0, 1, 7, 2, 1, 0])
        self.assertEqual(self.proof([4, 4, 4, 4], [7, 7, 3, 1], [(0, 4, 10, 4)]), [0, 2, 3, 6, 1, 0, 7, 2, 1, 0])

    def test_a_slot_of_the_price_itself_is_not_cheaper(self):
        self.assertEqual(self.proof([9, 9], [0, 1], [(1, 2, 6, 9)]), [0, 1, 1, 6, 1, 0])

    def test_no_car(self):
        self.assertEqual(self.proof([5, 5, 5], [3, 1, 2], []), [0, 2, 2, 0, 0, 3, 0, 0])

    def test_the_set_of_no_car_and_nothing(self):
        self.assertEqual(self.proof([5, 5], [1, 2], [(0, 1, 5, 5), (0, 2, 0, 5)]), [0, 1, 2, 0, 0])

    def test_two_cars_that_only_together_have_to_take_dear(self):
        cars = [(0, 2, 3, 3), (0, 2, 3, 3)]
        self.assertEqual(self.proof([3, 3], [1, 2], cars), [0, 1, 2, 3, 2, 0, 1])

    def test_of_several_sets_the_least_number(self):
        self.assertEqual(self.proof([4, 9], [1, 2], [(0, 2, 7, 4), (1, 2, 0, 4)]), [0, 1, 2, 3, 1, 0])
        self.assertEqual(self.proof([4, 9], [1, 2], [(1, 2, 0, 4), (0, 2, 7, 4)]), [0, 1, 2, 3, 1, 1])
        cars = [(0, 2, 2, 2), (1, 2, 1, 1), (0, 2, 0, 1), (1, 2, 1, 1)]
        self.assertEqual(self.proof([2, 9], [1, 2], cars), [0, 1, 2, 2, 2, 1, 3])

    def test_not_all_can_be_filled(self):
        self.assertEqual(self.proof([5, 4], [1, 1], [(0, 2, 10, 5)]), [-5])
        self.assertEqual(self.proof(*unfilled_day()), [-5])

    def test_every_plan_takes_so_much_and_one_no_more(self):
        draws = Draws(31)
        seen = 0
        for turn in range(500):
            slots = draws.between(2, 4)
            supplies, prices, cars = drawn_day(draws, slots, draws.between(1, 3 if slots < 4 else 2), 6, 4, 3, [0, 5, 9])
            plans = oracle.all_plans(supplies, cars)
            told = self.proof(supplies, prices, cars)
            if not plans:
                self.assertEqual(told, [-5])
                continue
            self.assertEqual(told, oracle.proof_of(supplies, prices, cars))
            at = 2
            for turn_of_price in range(told[1]):
                dear = [slot for slot in range(slots) if prices[slot] >= told[at]]
                takes = [sum(oracle.loads_of(plan, slots)[slot] for slot in dear) for plan in plans]
                self.assertEqual(min(takes), told[at + 1], (supplies, prices, cars))
                seen += told[at + 1] > 0
                at += 3 + told[at + 2]
        self.assertGreater(seen, 60)

    def test_flows_of_larger_days(self):
        for day in filled_days(32, 60) + [greatest_day()]:
            self.assertEqual(self.proof(*day), oracle.proof_of(*day), day)

    def test_changes_are_seen(self):
        day = ([4, 4], [1, 2], [(0, 2, 5, 4)])
        told = ask_day(day, PROOF, price(0, 3), PROOF, price(0, 2), PROOF, price(1, 0), PROOF, supply(1, 3), PROOF, gone(0), PROOF)
        self.assertEqual(told[0::2], [[0, 1, 2, 1, 1, 0], [0, 1, 3, 1, 1, 0], [0, 0], [0, 1, 2, 1, 1, 0],
                                      [0, 1, 2, 2, 1, 0], [0, 1, 2, 0, 0]])


class Proves(unittest.TestCase):
    day = ([5, 5, 5], [9, 1, 4], [(0, 3, 8, 5), (0, 2, 4, 5)])

    def test_by_hand(self):
        # All need 12, at 1 at least; the first set counts what is above the slot at 1, the second above 1 and 4.
        told = ask_day(self.day, proves(0, 0), proves(1, 0), proves(2, 0), proves(3, 0), proves(3, 3), proves(0, 3))
        self.assertEqual(told, [[0, 12], [0, 12 + 3 * 3], [0, 12], [0, 12 + 3 * 7], [0, 12 + 21 + 5 * 2], [0, 12 + 5 * 2]])

    def test_the_told_sets_prove_the_told_plans_cost(self):
        at_its_bounds = ([60] * 12, list(range(988, 1000)), [(0, 12, 99, 20)] * 6)
        for day in filled_days(33, 80) + [self.day, greatest_day(), at_its_bounds]:
            told = ask_day(day, PROOF, PLAN)
            self.assertEqual(ask_day(day, proves(*told_sets(told[0]))), [[0, told[1][1]]], day)

    def test_any_sets_prove_no_more_than_a_plan_costs(self):
        draws = Draws(34)
        met = 0
        for turn in range(60):
            day = drawn_day(draws, draws.between(1, 4), draws.between(0, 3), 9, 6, 4, [0, 2, 3])
            if not oracle.day_fills(day[0], day[2]):
                continue
            cost = ask_day(day, PLAN)[0][1]
            rows = list(product(range(2 ** len(day[2])), repeat=len(set(day[1])) - 1))
            told = [answer for at in range(0, len(rows), 59) for answer in ask_day(day, *[proves(*r) for r in rows[at:at + 59]])]
            for row, answer in zip(rows, told):
                self.assertEqual(answer, [0, oracle.proven_by(*day, row)], (day, row))
                self.assertLessEqual(answer[1], cost, (day, row))
            self.assertEqual(max(answer[1] for answer in told), cost, day)
            met += 1
        self.assertGreater(met, 20)

    def test_any_sets_on_larger_days(self):
        draws = Draws(35)
        short = 0
        for turn in range(100):
            day = drawn_day(draws, draws.between(2, 12), draws.between(1, 4), 30, 30, 15, [0, 1, 7, 30, 31, 999])
            rows = [[draws.below(2 ** len(day[2])) for q in range(len(set(day[1])) - 1)] for k in range(8)]
            told = ask_day(day, PLAN, *[proves(*row) for row in rows])
            for row, answer in zip(rows, told[1:]):
                self.assertEqual(answer, [0, oracle.proven_by(*day, row)], (day, row))
                if told[0] != [-5]:
                    self.assertLessEqual(answer[1], told[0][1], (day, row))
            short += told[0] == [-5]
        self.assertTrue(20 < short < 80)

    def test_where_not_all_can_be_filled(self):
        day = ([5, 4], [1, 3], [(0, 2, 10, 5), (1, 2, 2, 1)])
        told = ask_day(day, PLAN, proves(0), proves(1), proves(2), proves(3))
        self.assertEqual(told, [[-5], [0, 12], [0, 12 + 2 * 5], [0, 12 + 2 * 2], [0, 12 + 2 * 7]])
        self.assertEqual(ask_day(unfilled_day(), proves(*[63] * 11))[0], [0, oracle.proven_by(*unfilled_day(), [63] * 11)])

    def test_one_price(self):
        day = ([5, 5], [6, 6], [(0, 2, 7, 5)])
        self.assertEqual(ask_day(day, proves(), proves(0), proves(1), proves(0, 0)), [[0, 42], [-1], [-1], [-1]])

    def test_no_car(self):
        day = ([5, 5], [6, 7], [])
        self.assertEqual(ask_day(day, proves(0), proves(1), proves()), [[0, 0], [-1], [-1]])

    def test_another_count(self):
        for row in ([], [3], [3, 3, 3], [0], [0, 0, 0], [0] * 80):
            self.assertEqual(ask_day(self.day, proves(*row)), [[-1]])

    def test_no_sets_number(self):
        for row in ([4, 0], [0, 4], [4, 4], [GREATEST, 0], [3, GREATEST]):
            self.assertEqual(ask_day(self.day, proves(*row)), [[-1]])
        day = ([60] * 2, [1, 2], [(0, 2, 1, 1)] * 6)
        self.assertEqual(ask_day(day, proves(63), proves(64)), [[0, 6], [-1]])

    def test_cars_that_come_and_go_change_which_numbers_are_sets(self):
        calls = [car(0, 1, 1, 1, "c"), proves(7, 0), gone(0), proves(3, 0), proves(4, 0)]
        told = ask(load(day_text(*self.day)), *calls)[1:]
        self.assertEqual([told[1][0], told[3][0], told[4]], [0, 0, [-1]])


if __name__ == "__main__":
    unittest.main()
