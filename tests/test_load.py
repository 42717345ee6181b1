"""The call load: a text is one day's, or has one first fault."""

import re
import unittest

from tests.tools import CAN, TEXT, Draws, ask, ask_last, day_text, greatest_day, load, text_answer

HEAD = "day mon 2\nsupply 5 6\nprice 7 8\n"


def first_fault(text):
    """The first fault by patterns, or None: another way than the program's."""
    lines = text.split(b"\n")
    names = []
    slots = 0
    for number, line in enumerate(lines):
        last = number == len(lines) - 1
        kind = 0
        if last:
            kind = 1 if number < 3 or line != b"" else 0
        elif number == 0:
            found = re.fullmatch(rb"day [a-z][a-z0-9]{0,11} ([1-9]|1[0-2])", line)
            kind = 0 if found else 1
            slots = int(found[1]) if found else 0
        elif number in (1, 2):
            form = rb"supply((?: (?:[0-9]|[1-5][0-9]|60))*)" if number == 1 else rb"price((?: (?:0|[1-9][0-9]{0,2}))*)"
            found = re.fullmatch(form, line)
            kind = 1 if not found else 2 if len(found[1].split()) != slots else 0
        else:
            count = rb"(0|[1-9][0-9]{0,8})"
            form = rb"car ([a-z][a-z0-9]{0,11}) " + count + b" " + count + rb" (?:[0-9]|[1-9][0-9]) (?:[1-9]|1[0-9]|20)"
            found = re.fullmatch(form, line)
            if not found:
                kind = 1
            elif int(found[2]) >= int(found[3]) or int(found[3]) > slots:
                kind = 3
            elif found[1] in names:
                kind = 4
            elif len(names) == 6:
                kind = 5
            else:
                names.append(found[1])
        if kind:
            return [number, kind]
    return None


class GoodDays(unittest.TestCase):
    def good(self, text, slots, cars):
        self.assertEqual(ask(load(text), TEXT), [[0, slots, cars], text_answer(text)])

    def test_one_slot_no_car(self):
        self.good("day a 1\nsupply 0\nprice 0\n", 1, 0)

    def test_one_slot_one_car(self):
        self.good("day a 1\nsupply 60\nprice 999\ncar a 0 1 0 1\n", 1, 1)

    def test_twelve_slots_no_car(self):
        self.good(day_text([60] * 12, [999] * 12, []), 12, 0)

    def test_twelve_slots_six_cars_at_both_bounds(self):
        cars = [(0, 12, 99, 20), (11, 12, 0, 1), (0, 1, 99, 1), (5, 6, 0, 20), (0, 12, 0, 1), (3, 9, 98, 19)]
        self.good(day_text([0, 60] * 6, [999, 0] * 6, cars), 12, 6)

    def test_greatest_day(self):
        self.good(day_text(*greatest_day()), 12, 6)

    def test_a_car_may_be_called_like_the_day_or_like_a_head(self):
        self.good(HEAD + "car mon 0 1 1 1\ncar car 0 2 1 1\ncar day 1 2 1 1\ncar supply 1 2 1 1\n", 2, 4)

    def test_names(self):
        for name in ("a", "z", "a0", "z9", "abcdefghijkl", "a23456789012"):
            self.good(f"day {name} 1\nsupply 1\nprice 1\ncar {name} 0 1 1 1\n", 1, 1)


class FirstFaults(unittest.TestCase):
    def fault(self, text, line, kind):
        if isinstance(text, str):
            text = text.encode("latin-1")
        self.assertEqual(ask(load(text)), [[-6, line, kind]], text)
        self.assertEqual(first_fault(text), [line, kind], text)

    def test_texts_that_end_too_soon(self):
        self.fault("", 0, 1)
        self.fault("day a 1\n", 1, 1)
        self.fault("day a 1\nsupply 1\n", 2, 1)

    def test_no_last_line_end(self):
        self.fault("day a 1", 0, 1)
        self.fault("day a 1\nsupply 1", 1, 1)
        self.fault("day a 1\nsupply 1\nprice 1", 2, 1)
        self.fault(HEAD + "car a 0 1 1 1", 3, 1)
        self.fault(HEAD + " ", 3, 1)
        self.fault(HEAD + "x", 3, 1)

    def test_empty_lines_and_blanks(self):
        self.fault("\n", 0, 1)
        self.fault(" \n", 0, 1)
        self.fault("   \n" + HEAD, 0, 1)
        self.fault(HEAD + "\n", 3, 1)
        self.fault(HEAD + "  \n", 3, 1)
        self.fault("day  mon 2\n", 0, 1)
        self.fault("day mon  2\n", 0, 1)
        self.fault("day mon 2 \n", 0, 1)
        self.fault(" day mon 2\n", 0, 1)
        self.fault("day mon\t2\n", 0, 1)
        self.fault("day mon 2\r\n", 0, 1)
        self.fault("day mon 2\nsupply 5  6\n", 1, 1)
        self.fault("day mon 2\nsupply 5 6 \n", 1, 1)
        self.fault("day mon 2\nsupply 5 \n", 1, 1)
        self.fault("day mon 2\n supply 5 6\n", 1, 1)
        self.fault("day mon 2\nsupply 5 6\nprice 7  8\n", 2, 1)
        self.fault("day mon 2\nsupply 5 6\nprice 7 8 \n", 2, 1)
        self.fault(HEAD + "car a 0 1 1 1 \n", 3, 1)
        self.fault(HEAD + "car a 0  1 1 1\n", 3, 1)
        self.fault(HEAD + " car a 0 1 1 1\n", 3, 1)

    def test_heads_and_counts_of_words(self):
        for line in ("days mon 2", "Day mon 2", "da mon 2", "day 2", "day mon", "day mon 2 2", "supply 5 6", "day"):
            self.fault(line + "\n", 0, 1)
        for line in ("price 5 6", "suppl 5 6", "Supply 5 6", "supply5 6", "day mon 2", "car a 0 1 1 1", "supply a b"):
            self.fault("day mon 2\n" + line + "\n", 1, 1)
        for line in ("supply 5 6", "prices 5 6", "pric 5 6", "car a 0 1 1 1", "price 5 b"):
            self.fault("day mon 2\nsupply 5 6\n" + line + "\n", 2, 1)
        for line in ("price 7 8", "cars a 0 1 1 1", "ca a 0 1 1 1", "car a 0 1 1", "car a 0 1 1 1 1", "car 0 1 1 1", "car"):
            self.fault(HEAD + line + "\n", 3, 1)

    def test_names(self):
        bad = ("abcdefghijklm", "1a", "A", "aB", "a_b", "a-b", "a.", "\xe4", "a\x00", "`", "{", "a`", "a{", "a/", "a:")
        for name in bad:
            self.fault(f"day {name} 2\n", 0, 1)
            self.fault(HEAD + f"car {name} 0 1 1 1\n", 3, 1)

    def test_forms_of_numbers(self):
        for number in ("01", "00", "000000001", "0000000001", "+1", "-1", "1.", "1a", "a", "1000000000", "\xb2", "1:", "1/", "/", ":"):
            self.fault(f"day mon {number}\n", 0, 1)
            self.fault(f"day mon 2\nsupply {number} 6\n", 1, 1)
            self.fault(f"day mon 2\nsupply 5 6\nprice 7 {number}\n", 2, 1)
            for place in range(4):
                words = ["0", "1", "1", "1"]
                words[place] = number
                self.fault(HEAD + "car a " + " ".join(words) + "\n", 3, 1)

    def test_bounds(self):
        for slots in ("0", "13", "999999999"):
            self.fault(f"day mon {slots}\n", 0, 1)
        for units in ("61", "100", "999999999"):
            self.fault(f"day mon 2\nsupply 5 {units}\n", 1, 1)
        for cost in ("1000", "999999999"):
            self.fault(f"day mon 2\nsupply 5 6\nprice {cost} 8\n", 2, 1)
        for need in ("100", "999999999"):
            self.fault(HEAD + f"car a 0 1 {need} 1\n", 3, 1)
        for rate in ("0", "21", "999999999"):
            self.fault(HEAD + f"car a 0 1 1 {rate}\n", 3, 1)

    def test_counts_of_numbers(self):
        for row in ("", " 5", " 5 6 7", " 0 0 0 0 0 0 0 0 0 0 0 0 0"):
            self.fault(f"day mon 2\nsupply{row}\n", 1, 2)
            self.fault(f"day mon 2\nsupply 5 6\nprice{row}\n", 2, 2)

    def test_stays(self):
        for stay in ("1 1", "2 1", "0 0", "0 3", "2 3", "2 2", "3 2", "0 999999999", "999999999 2", "999999999 999999999"):
            self.fault(HEAD + f"car a {stay} 1 1\n", 3, 3)

    def test_name_again(self):
        self.fault(HEAD + "car a 0 1 1 1\ncar a 0 1 1 1\n", 4, 4)
        self.fault(HEAD + "car a 0 1 1 1\ncar b 0 1 1 1\ncar a 1 2 3 4\n", 5, 4)

    def test_seventh_car(self):
        six = "".join(f"car c{number} 0 1 1 1\n" for number in range(6))
        self.fault(HEAD + six + "car c6 0 1 1 1\n", 9, 5)
        self.fault(HEAD + six + "car c6 0 1 1 1\ncar c6 0 1 1 1\n", 9, 5)
        self.assertEqual(ask(load(HEAD + six)), [[0, 2, 6]])

    def test_the_least_kind_of_one_line(self):
        self.fault("day mon 2\nsupply 5 6 61\n", 1, 1)
        self.fault("day mon 2\nsupply 61\n", 1, 1)
        self.fault("day mon 2\nsupply 5 6\nprice 1000\n", 2, 1)
        six = "".join(f"car c{number} 0 1 1 1\n" for number in range(6))
        self.fault(HEAD + "car a 2 1 100 1\n", 3, 1)
        self.fault(HEAD + "car a 0 1 1 1\ncar a 0 1 1 0\n", 4, 1)
        self.fault(HEAD + "car a 0 1 1 1\ncar a 1 1 1 1\n", 4, 3)
        self.fault(HEAD + six + "car c6 0 1 1 21\n", 9, 1)
        self.fault(HEAD + six + "car c6 0 3 1 1\n", 9, 3)
        self.fault(HEAD + six + "car c5 0 3 1 1\n", 9, 3)
        self.fault(HEAD + six + "car c5 0 1 1 1\n", 9, 4)
        self.fault(HEAD + six + "car c6 0 1 1 1", 9, 1)

    def test_the_first_line_of_two(self):
        self.fault("day mon 2\nsupply 5\nprice 1000 8\n", 1, 2)
        self.fault("day mon 2\nsupply 5 6\nprice 7\ncar A 0 1 1 1\n", 2, 2)
        self.fault(HEAD + "car a 1 1 1 1\ncar b 0 1 100 1\n", 3, 3)
        self.fault(HEAD + "car a 0 1 1 1\ncar a 0 1 1 1\ncar B 0 1 1 1\n", 4, 4)
        self.fault(HEAD + "car a 0 3 1 1\nx", 3, 3)
        self.fault(HEAD + "car a 0 1 1 1\nx", 4, 1)

    def test_every_byte_put_in_or_changed_anywhere(self):
        text = b"day m 1\nsupply 9\nprice 10\ncar a 0 1 9 1\n"
        for place in range(len(text) + 1):
            for byte in range(256):
                self.same(text[:place] + bytes([byte]) + text[place:])
                self.same(text[:place] + bytes([byte]) + text[place + 1:])
            self.same(text[:place])
            self.same(text[:place] + text[place + 1:])

    def test_drawn_texts(self):
        draws = Draws(7)
        words = "day supply price car a b c aa 0 1 2 3 5 12 20 60 61 99 100 999 1000 00".split() + ["", " ", "\n"]
        whole = (HEAD + "".join(f"car {name} 0 2 9 3\n" for name in "abcdef")).encode()
        for turn in range(6000):
            pieces = re.split(rb"([ \n])", whole)
            for change in range(draws.between(1, 3)):
                place = draws.below(len(pieces))
                pieces[place:place + draws.below(3)] = [draws.one_of(words).encode()] * draws.between(0, 2)
            self.same(b"".join(pieces))

    def same(self, text):
        fault = first_fault(text)
        if fault:
            self.assertEqual(ask(load(text)), [[-6] + fault], text)
        else:
            self.assertEqual(ask(load(text), TEXT)[1], [0] + list(text), text)


class Refused(unittest.TestCase):
    def test_too_long(self):
        self.assertEqual(ask(load("x" * 2049)), [[-2]])
        self.assertEqual(ask(load("x" * 2048)), [[-6, 0, 1]])
        self.assertEqual(ask(load("x" * 1500)), [[-6, 0, 1]])

    def test_a_refused_load_leaves_the_day_that_there_was(self):
        text = HEAD + "car a 0 1 1 1\n"
        bad = HEAD + "car b 0 1 1 1\ncar b 0 1 1 1\n"
        self.assertEqual(ask(load(text), load(bad), TEXT), [[0, 2, 1], [-6, 4, 4], text_answer(text)])
        self.assertEqual(ask_last(load(text), load("x" * 2049), TEXT), text_answer(text))
        self.assertEqual(ask_last(load(bad), CAN), [-3])

    def test_a_second_load_is_the_day_then(self):
        self.assertEqual(ask_last(load(HEAD), load("day b 1\nsupply 3\nprice 4\n"), TEXT),
                         text_answer("day b 1\nsupply 3\nprice 4\n"))


if __name__ == "__main__":
    unittest.main()
