"""The calls car, gone, supply, price, and what text tells after them."""

import unittest

from tests.tools import CAN, TEXT, ask, ask_last, car, day_text, gone, load, price, supply, text_answer

GREATEST = 4294967295
CARS = [(0, 2, 5, 3), (1, 3, 7, 4), (2, 3, 1, 1)]
DAY = day_text([10, 20, 30], [1, 2, 3], CARS)


class TextAfter(unittest.TestCase):
    def after(self, calls, expected, text):
        """The last of the calls on DAY answers expected, and then the day's text is this."""
        told = ask(load(DAY), *calls, TEXT)
        self.assertEqual(told[-2], expected)
        self.assertEqual(told[-1], text_answer(text))

    def refused(self, call, number):
        self.after([call], [number], DAY)


class Car(TextAfter):
    def test_a_new_car_is_the_last(self):
        self.after([car(0, 3, 99, 20, "new")], [0, 4], DAY + "car new 0 3 99 20\n")

    def test_a_car_that_is_there_stays_in_its_place(self):
        for place, name in enumerate("abc"):
            cars = list(CARS)
            cars[place] = (0, 1, 98, 19)
            self.after([car(0, 1, 98, 19, name)], [0, 3], day_text([10, 20, 30], [1, 2, 3], cars))

    def test_bounds_that_are_allowed(self):
        for a, b, n, r, name in [(0, 1, 0, 1, "x"), (2, 3, 99, 20, "x9"), (0, 3, 1, 1, "abcdefghijkl")]:
            self.after([car(a, b, n, r, name)], [0, 4], DAY + f"car {name} {a} {b} {n} {r}\n")

    def test_numbers_out_of_bounds(self):
        bad = [(1, 1, 1, 1), (2, 1, 1, 1), (0, 0, 1, 1), (0, 4, 1, 1), (3, 4, 1, 1), (3, 3, 1, 1), (0, 1, 100, 1),
               (0, 1, 1, 0), (0, 1, 1, 21), (GREATEST, 3, 1, 1), (0, GREATEST, 1, 1), (0, 1, GREATEST, 1),
               (0, 1, 1, GREATEST)]
        for a, b, n, r in bad:
            for name in ("x", "b"):
                self.refused(car(a, b, n, r, name), -1)

    def test_names_that_are_none(self):
        for name in ("", "abcdefghijklm", "1a", "A", "a b", "a\n", "a\x00", "\xff", "x" * 40, "a`", "a{", "a/", "a:"):
            self.refused(car(0, 1, 1, 1, name), -1)

    def test_the_seventh(self):
        three = [car(0, 1, 1, 1, name) for name in ("d", "e", "f")]
        text = DAY + "".join(f"car {name} 0 1 1 1\n" for name in "def")
        self.after(three, [0, 6], text)
        self.after(three + [car(0, 1, 1, 1, "g")], [-7], text)
        self.after(three + [car(0, 1, 100, 1, "g")], [-1], text)
        self.after(three + [car(0, 4, 1, 1, "g")], [-1], text)
        self.after(three + [car(0, 1, 1, 1, "1g")], [-1], text)
        self.after(three + [car(0, 2, 2, 2, "f")], [0, 6], text.replace("car f 0 1 1 1", "car f 0 2 2 2"))
        self.after(three + [car(0, 2, 2, 2, "a")], [0, 6], text.replace("car a 0 2 5 3", "car a 0 2 2 2"))

    def test_room_for_one_more_when_one_is_gone(self):
        calls = [car(0, 1, 1, 1, name) for name in ("d", "e", "f")] + [gone(0), car(0, 1, 1, 1, "g")]
        self.after(calls, [0, 6], DAY.replace("car a 0 2 5 3\n", "") + "".join(f"car {n} 0 1 1 1\n" for n in "defg"))

    def test_a_car_may_be_called_like_the_day(self):
        self.after([car(0, 1, 1, 1, "mon")], [0, 4], DAY + "car mon 0 1 1 1\n")

    def test_its_stay_is_bound_by_the_days_slots(self):
        text = day_text([1] * 12, [1] * 12, [])
        self.assertEqual(ask_last(load(text), car(11, 12, 1, 1, "a")), [0, 1])
        self.assertEqual(ask_last(load(text), car(11, 13, 1, 1, "a")), [-1])


class Gone(TextAfter):
    def left(self, cars):
        lines = {"a": "car a 0 2 5 3\n", "b": "car b 1 3 7 4\n", "c": "car c 2 3 1 1\n"}
        return day_text([10, 20, 30], [1, 2, 3], []) + "".join(lines[name] for name in cars)

    def test_each(self):
        self.after([gone(0)], [0, 2], self.left("bc"))
        self.after([gone(1)], [0, 2], self.left("ac"))
        self.after([gone(2)], [0, 2], self.left("ab"))

    def test_those_behind_are_numbered_one_less(self):
        self.after([gone(0), gone(0)], [0, 1], self.left("c"))
        self.after([gone(0), gone(1)], [0, 1], self.left("b"))
        self.after([gone(0), gone(2)], [-4], self.left("bc"))

    def test_until_none_is_left(self):
        self.after([gone(0), gone(0), gone(0)], [0, 0], self.left(""))
        self.after([gone(0), gone(0), gone(0), gone(0)], [-4], self.left(""))

    def test_no_such_car(self):
        self.refused(gone(3), -4)
        self.refused(gone(GREATEST), -4)

    def test_its_name_is_free_again(self):
        self.after([gone(0), car(0, 2, 5, 3, "a")], [0, 3], self.left("bca"))


class SupplyAndPrice(TextAfter):
    def test_supply_at_its_bounds(self):
        for slot in range(3):
            for units in (0, 1, 60):
                supplies = [10, 20, 30]
                supplies[slot] = units
                self.after([supply(slot, units)], [0], day_text(supplies, [1, 2, 3], CARS))

    def test_price_at_its_bounds(self):
        for slot in range(3):
            for units in (0, 61, 999):
                prices = [1, 2, 3]
                prices[slot] = units
                self.after([price(slot, units)], [0], day_text([10, 20, 30], prices, CARS))

    def test_refusals(self):
        for units in (61, 999, GREATEST):
            self.refused(supply(0, units), -1)
        for units in (1000, GREATEST):
            self.refused(price(2, units), -1)
        for slot in (3, 12, GREATEST):
            for units in (0, 60, 61, 999, 1000, GREATEST):
                self.refused(supply(slot, units), -4)
                self.refused(price(slot, units), -4)

    def test_what_is_told_then_is_of_the_changed_day(self):
        full = day_text([3, 3], [1, 1], [(0, 2, 6, 3)])
        self.assertEqual(ask(load(full), CAN, supply(1, 2), CAN, supply(1, 3), CAN),
                         [[0, 2, 1], [0, 1], [0], [0, 0, 1, 1, 0], [0], [0, 1]])


if __name__ == "__main__":
    unittest.main()
