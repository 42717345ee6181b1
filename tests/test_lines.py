"""Lists of calls: without a day, several calls, nothing kept, nothing changed that was handed in."""

import unittest

from chargingcars.parks import answers
from tests.tools import CAN, LOADS, MOST, PLAN, PROOF, REFUSE, TEXT, ask, asks, car, cut, day_text, gain, gone
from tests.tools import greatest_day, judge, late, load, more, now, price, proves, spare, supply, text_answer, unfilled_day

GREATEST = 4294967295
DAY = day_text([4, 4], [1, 2], [(0, 2, 5, 4)])
CHANGES = [car(0, 1, 1, 1, "a"), gone(0), supply(0, 1), price(0, 1)]
TELLINGS = [TEXT, CAN, asks(), MOST, PLAN, LOADS, PROOF, proves(0), judge(4, 1), REFUSE, spare(0), gain(0), more(0), late(0),
            now(0)]
ALL_BUT_LOAD = CHANGES + TELLINGS


def flat(*calls):
    return [number for call in calls for number in call]


class WithoutADay(unittest.TestCase):
    def test_each_call_but_load(self):
        for call in ALL_BUT_LOAD:
            self.assertEqual(answers(call), [1, -3])

    def test_ahead_of_every_other_refusal(self):
        wrong = [car(9, 1, 100, 0, ""), gone(GREATEST), supply(GREATEST, GREATEST), price(GREATEST, GREATEST),
                 supply(0, 61), price(0, 1000), asks(GREATEST), asks(0, 0), proves(GREATEST), proves(*[0] * 80), judge(),
                 judge(*[GREATEST] * 80), spare(GREATEST), gain(GREATEST), more(GREATEST), late(GREATEST), now(GREATEST)]
        for call in wrong:
            self.assertEqual(answers(call), [1, -3])

    def test_behind_a_refused_load(self):
        for call in ALL_BUT_LOAD:
            self.assertEqual(ask(load("day"), call), [[-6, 0, 1], [-3]])

    def test_one_behind_another_up_to_a_load(self):
        told = ask(*ALL_BUT_LOAD, load(DAY), CAN)
        self.assertEqual(told, [[-3]] * 19 + [[0, 2, 1], [0, 1]])


class Lists(unittest.TestCase):
    def test_the_form_of_what_is_given_back(self):
        self.assertEqual(answers(flat(load(DAY), supply(0, 61), CAN, MOST, PLAN, asks(0), gone(0))),
                         [3, 0, 2, 1, 1, -1, 2, 0, 1, 2, 0, 5, 4, 0, 6, 4, 1, 3, 0, 5, 8, 2, 0, 0])

    def test_the_form_of_what_the_plan_s_kin_give_back(self):
        self.assertEqual(answers(flat(load(DAY), LOADS, PROOF, proves(1), judge(4, 1), judge(1, 4), judge(1), REFUSE, now(1))),
                         [3, 0, 2, 1, 3, 0, 4, 1, 6, 0, 1, 2, 1, 1, 0, 2, 0, 6, 3, 0, 0, 6, 3, 0, 0, 9, 1, -1, 2, 0, 0,
                          3, 0, 1, 0])
        self.assertEqual(answers(flat(load(DAY), spare(0), gain(0), more(0), late(0), spare(2), late(1))),
                         [3, 0, 2, 1, 2, 0, 3, 2, 0, 0, 2, 0, 3, 2, 0, 0, 1, -4, 1, -4])

    def test_the_counts_of_refusals(self):
        self.assertEqual(answers(load("")), [3, -6, 0, 1])
        self.assertEqual(answers(flat(load(DAY), gone(1))), [3, 0, 2, 1, 1, -4])

    def test_rows_of_no_number(self):
        self.assertEqual(ask(load(DAY), [7, 0], [1, 0, 1, 1, 1, 0], CAN), [[0, 2, 1], [0, 0, 0], [-1], [0, 1]])
        self.assertEqual(ask([0, 0], CAN), [[-6, 0, 1], [-3]])
        self.assertEqual(ask(load(DAY), [12, 0], [13, 0], CAN), [[0, 2, 1], [-1], [-1], [0, 1]])

    def test_sixty_calls(self):
        calls = [load(DAY)] + [supply(number % 2, number) for number in range(58)] + [TEXT]
        told = ask(*calls)
        self.assertEqual(len(told), 60)
        self.assertEqual(told[1:-1], [[0]] * 58)
        self.assertEqual(told[-1], text_answer(DAY.replace("supply 4 4", "supply 56 57")))

    def test_nothing_is_kept_from_one_list_to_the_next(self):
        calls = flat(load(DAY), car(0, 1, 1, 1, "z"), supply(0, 9), price(1, 99), gone(0), *TELLINGS)
        first = answers(list(calls))
        self.assertEqual(answers([6]), [1, -3])
        self.assertEqual(answers(list(calls)), first)
        self.assertEqual(cut(answers(flat(load(DAY), TEXT)))[1], text_answer(DAY))

    def test_what_is_handed_in_is_as_it_was(self):
        calls = flat(load(DAY), car(0, 1, 1, 1, "z"), supply(0, 9), price(1, 99), asks(1, 0), *TELLINGS, gone(0), TEXT, [6])
        kept = list(calls)
        answers(calls)
        self.assertEqual(calls, kept)

    def test_a_list_that_allows_no_change(self):
        class Still(list):
            def refuse(self, *given):
                raise AssertionError("changed")
            append = extend = insert = pop = remove = clear = sort = reverse = refuse
            __setitem__ = __delitem__ = __iadd__ = __imul__ = refuse

        calls = flat(load(DAY), car(0, 1, 1, 1, "z"), supply(0, 9), price(1, 99), asks(1, 0), *TELLINGS, gone(0), TEXT)
        self.assertEqual(answers(Still(calls)), answers(calls))

    def test_what_is_given_back_is_a_list_of_whole_numbers(self):
        told = answers(flat(load(DAY), *TELLINGS, *ALL_BUT_LOAD, load("day"), asks(9)))
        self.assertIs(type(told), list)
        for number in told:
            self.assertIs(type(number), int)

    def test_what_is_given_back_is_new_each_time(self):
        calls = flat(load(DAY), TEXT)
        first = answers(calls)
        kept = list(first)
        first[:] = [0]
        self.assertEqual(answers(calls), kept)


class Unchanged(unittest.TestCase):
    def test_no_telling_changes_the_day(self):
        for day in (DAY, day_text(*greatest_day()), day_text(*unfilled_day())):
            wrong = [proves(), judge(), spare(12), gain(12), more(6), late(6), now(12)]
            for call in TELLINGS + wrong:
                self.assertEqual(ask(load(day), call, TEXT)[2], text_answer(day), call)


class GreatestLists(unittest.TestCase):
    def same_as_alone(self, day, calls):
        """Sixty calls in one list answer what each answers alone, and the list is as it was."""
        numbers = flat(load(day), *calls)
        kept = list(numbers)
        told = cut(answers(numbers))
        self.assertEqual(numbers, kept)
        self.assertEqual(len(told), 60)
        for call, answer in zip(calls, told[1:]):
            self.assertEqual(answer, ask(load(day), call)[1], call)
        return told

    def test_sixty_calls_on_the_greatest_day(self):
        day = day_text(*greatest_day())
        plan = ask(load(day), PLAN)[1]
        heavy = [PLAN] * 2 + [REFUSE] * 2 + [now(slot) for slot in range(12)]
        rest = [call for slot in range(12) for call in (spare(slot), gain(slot))] + [more(k) for k in range(6)]
        rest += [late(k) for k in range(6)] + [LOADS, PROOF, proves(*[63] * 5), judge(*plan[2:]), CAN, MOST, TEXT]
        told = self.same_as_alone(day, heavy + rest)
        self.assertTrue(all(answer[0] == 0 for answer in told))

    def test_sixty_calls_on_a_day_that_cannot_be_filled(self):
        heavy = [REFUSE] * 14 + [PLAN, now(0)]
        rest = [call for k in range(6) for call in (spare(k), gain(k), more(k), late(k))] + [proves(*[63] * 11)] * 9
        rest += [judge(*[GREATEST] * 72)] * 8 + [LOADS, PROOF]
        told = self.same_as_alone(day_text(*unfilled_day()), heavy + rest)
        self.assertEqual(told[15:17], [[-5], [-5]])


if __name__ == "__main__":
    unittest.main()
