"""Lists of calls: without a day, several calls, nothing kept, nothing changed that was handed in."""

import unittest

from chargingcars.parks import answers
from tests.tools import CAN, MOST, PLAN, TEXT, ask, asks, car, cut, day_text, gone, load, price, supply, text_answer

GREATEST = 4294967295
DAY = day_text([4, 4], [1, 2], [(0, 2, 5, 4)])
ALL_BUT_LOAD = [car(0, 1, 1, 1, "a"), gone(0), supply(0, 1), price(0, 1), TEXT, CAN, asks(), MOST, PLAN]


def flat(*calls):
    return [number for call in calls for number in call]


class WithoutADay(unittest.TestCase):
    def test_each_call_but_load(self):
        for call in ALL_BUT_LOAD:
            self.assertEqual(answers(call), [1, -3])

    def test_ahead_of_every_other_refusal(self):
        wrong = [car(9, 1, 100, 0, ""), gone(GREATEST), supply(GREATEST, GREATEST), price(GREATEST, GREATEST),
                 supply(0, 61), price(0, 1000), asks(GREATEST), asks(0, 0)]
        for call in wrong:
            self.assertEqual(answers(call), [1, -3])

    def test_behind_a_refused_load(self):
        for call in ALL_BUT_LOAD:
            self.assertEqual(ask(load("day"), call), [[-6, 0, 1], [-3]])

    def test_one_behind_another_up_to_a_load(self):
        told = ask(*ALL_BUT_LOAD, load(DAY), CAN)
        self.assertEqual(told, [[-3]] * 9 + [[0, 2, 1], [0, 1]])


class Lists(unittest.TestCase):
    def test_the_form_of_what_is_given_back(self):
        self.assertEqual(answers(flat(load(DAY), supply(0, 61), CAN, MOST, PLAN, asks(0), gone(0))),
                         [3, 0, 2, 1, 1, -1, 2, 0, 1, 2, 0, 5, 4, 0, 6, 4, 1, 3, 0, 5, 8, 2, 0, 0])

    def test_the_counts_of_refusals(self):
        self.assertEqual(answers(load("")), [3, -6, 0, 1])
        self.assertEqual(answers(flat(load(DAY), gone(1))), [3, 0, 2, 1, 1, -4])

    def test_rows_of_no_number(self):
        self.assertEqual(ask(load(DAY), [7, 0], [1, 0, 1, 1, 1, 0], CAN), [[0, 2, 1], [0, 0, 0], [-1], [0, 1]])
        self.assertEqual(ask([0, 0], CAN), [[-6, 0, 1], [-3]])

    def test_sixty_calls(self):
        calls = [load(DAY)] + [supply(number % 2, number) for number in range(58)] + [TEXT]
        told = ask(*calls)
        self.assertEqual(len(told), 60)
        self.assertEqual(told[1:-1], [[0]] * 58)
        self.assertEqual(told[-1], text_answer(DAY.replace("supply 4 4", "supply 56 57")))

    def test_nothing_is_kept_from_one_list_to_the_next(self):
        calls = flat(load(DAY), car(0, 1, 1, 1, "z"), supply(0, 9), price(1, 99), gone(0), TEXT, PLAN)
        first = answers(list(calls))
        self.assertEqual(answers([6]), [1, -3])
        self.assertEqual(answers(list(calls)), first)
        self.assertEqual(cut(answers(flat(load(DAY), TEXT)))[1], text_answer(DAY))

    def test_what_is_handed_in_is_as_it_was(self):
        calls = flat(load(DAY), car(0, 1, 1, 1, "z"), supply(0, 9), price(1, 99), asks(1, 0), PLAN, gone(0), TEXT, [6])
        kept = list(calls)
        answers(calls)
        self.assertEqual(calls, kept)

    def test_a_list_that_allows_no_change(self):
        class Still(list):
            def refuse(self, *given):
                raise AssertionError("changed")
            append = extend = insert = pop = remove = clear = sort = reverse = refuse
            __setitem__ = __delitem__ = __iadd__ = __imul__ = refuse

        calls = flat(load(DAY), car(0, 1, 1, 1, "z"), supply(0, 9), price(1, 99), asks(1, 0), PLAN, gone(0), TEXT)
        self.assertEqual(answers(Still(calls)), answers(calls))

    def test_what_is_given_back_is_a_list_of_whole_numbers(self):
        told = answers(flat(load(DAY), *ALL_BUT_LOAD, load("day"), asks(9)))
        self.assertIs(type(told), list)
        for number in told:
            self.assertIs(type(number), int)

    def test_what_is_given_back_is_new_each_time(self):
        calls = flat(load(DAY), TEXT)
        first = answers(calls)
        kept = list(first)
        first[:] = [0]
        self.assertEqual(answers(calls), kept)


if __name__ == "__main__":
    unittest.main()
