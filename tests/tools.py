"""What the tests share: calls as lists of numbers, answers cut apart, and small days."""

from chargingcars.parks import answers
from tests import oracle

TEXT = [5]
CAN = [6]
MOST = [8]
PLAN = [9]
LOADS = [10]
PROOF = [11]
REFUSE = [14]


def load(text):
    if isinstance(text, str):
        text = text.encode("latin-1")
    return [0, len(text)] + list(text)


def car(a, b, n, r, name):
    if isinstance(name, str):
        name = name.encode("latin-1")
    return [1, a, b, n, r, len(name)] + list(name)


def gone(number):
    return [2, number]


def supply(slot, units):
    return [3, slot, units]


def price(slot, units):
    return [4, slot, units]


def asks(*cars):
    return [7, len(cars)] + list(cars)


def proves(*sets):
    return [12, len(sets)] + list(sets)


def judge(*row):
    return [13, len(row)] + list(row)


def spare(slot):
    return [15, slot]


def gain(slot):
    return [16, slot]


def more(number):
    return [17, number]


def late(number):
    return [18, number]


def now(slot):
    return [19, slot]


def ask(*calls):
    """The answer of each call, all of them in one list of calls."""
    flat = [number for call in calls for number in call]
    return cut(answers(flat))


def ask_last(*calls):
    return ask(*calls)[-1]


def cut(numbers):
    """The list that is given back, cut into the answers."""
    found = []
    at = 0
    while at < len(numbers):
        count = numbers[at]
        assert count >= 1 and at + 1 + count <= len(numbers)
        found.append(numbers[at + 1:at + 1 + count])
        at += 1 + count
    return found


def day_text(supplies, prices, cars, name="mon"):
    """A day's text; cars are (A, B, N, R), called a, b, c and so on, or (A, B, N, R, name)."""
    lines = [f"day {name} {len(supplies)}"]
    lines.append(" ".join(["supply"] + [str(s) for s in supplies]))
    lines.append(" ".join(["price"] + [str(p) for p in prices]))
    for number, one in enumerate(cars):
        called = one[4] if len(one) > 4 else "abcdef"[number]
        lines.append(f"car {called} {one[0]} {one[1]} {one[2]} {one[3]}")
    return "".join(line + "\n" for line in lines)


def ask_day(day, *calls):
    """What the calls answer on a day of (supplies, prices, cars)."""
    return ask(load(day_text(*day)), *calls)[1:]


def text_answer(text):
    return [0] + list(text.encode("latin-1"))


class Draws:
    """Numbers that look drawn by lot but are the same each time."""

    def __init__(self, seed):
        self.state = seed

    def below(self, bound):
        self.state = (self.state * 6364136223846793005 + 1442695040888963407) % 2 ** 64
        return (self.state >> 33) % bound

    def between(self, least, most):
        return least + self.below(most - least + 1)

    def one_of(self, things):
        return things[self.below(len(things))]


def drawn_day(draws, slots, cars, most_supply, most_need, most_rate, prices):
    """(supplies, prices, cars) of a day within these bounds; prices are drawn from a list."""
    supplies = [draws.between(0, most_supply) for slot in range(slots)]
    costs = [draws.one_of(prices) for slot in range(slots)]
    drawn = []
    for number in range(cars):
        a = draws.below(slots)
        b = draws.between(a + 1, slots)
        drawn.append((a, b, draws.between(0, most_need), draws.between(1, most_rate)))
    return supplies, costs, drawn


def filled_days(seed, count):
    """Days on which all can be filled."""
    draws = Draws(seed)
    found = []
    while len(found) < count:
        day = drawn_day(draws, draws.between(1, 12), draws.between(1, 6), 30, 25, 15, [0, 1, 7, 7, 30, 31, 999])
        if oracle.day_fills(day[0], day[2]):
            found.append(day)
    return found


def greatest_day():
    """12 slots, 6 cars; all can be filled, but not by much."""
    supplies = [20, 60, 7, 33, 60, 41, 18, 60, 25, 60, 39, 60]
    prices = [500, 999, 3, 500, 0, 720, 720, 3, 999, 500, 41, 720]
    cars = [(0, 12, 99, 20), (0, 9, 70, 10), (3, 12, 77, 19), (2, 7, 60, 20), (5, 12, 66, 11), (0, 12, 71, 9)]
    return supplies, prices, cars


def unfilled_day():
    """12 slots, 6 cars; not all can be filled, not even without three of them: there are 54 units."""
    supplies = [9, 3, 0, 7, 4, 1, 8, 2, 6, 5, 0, 9]
    return supplies, list(range(12)), [(0, 12, need, 20) for need in (30, 28, 26, 24, 22, 20)]
