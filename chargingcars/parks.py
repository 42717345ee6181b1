"""A park: calls on one day, one behind another, and what they answer."""

from chargingcars.carsets import all_filled
from chargingcars.changes import put_car, set_price, set_supply, take_away
from chargingcars.margins import come_late, gained, needed_more, spared
from chargingcars.plans import cost_and_plan, taken_and_left, told_loads
from chargingcars.proofs import told_proof
from chargingcars.refusals import FAULT, NO_DAY, NO_SUCH, NOT_FILLED, TOO_LONG
from chargingcars.tellings import tell_asks, tell_can, tell_judge, tell_most, tell_proves, tell_refuse, tell_text
from chargingcars.texts import day_of, first_fault, lines_of

LOAD = 0
CAR = 1
GONE = 2
SUPPLY = 3
PRICE = 4
TEXT = 5
CAN = 6
ASKS = 7
MOST = 8
PLAN = 9
LOADS = 10
PROOF = 11
PROVES = 12
JUDGE = 13
SPARE = 15
GAIN = 16
MORE = 17
LATE = 18
NOW = 19

# By a call's number: how many whole numbers it has, and how many rows behind them.
NUMBERS = (0, 4, 1, 2, 2, 0, 0, 0, 0, 0, 0, 0, 0, 0, 0, 1, 1, 1, 1, 1)
ROWS = (1, 1, 0, 0, 0, 0, 0, 1, 0, 0, 0, 0, 1, 1, 0, 0, 0, 0, 0, 0)

MOST_BYTES = 2048


# An object keeps the day, since load puts another in its place.
class Park:
    def __init__(self):
        self.day = None


def answers(calls):
    park = Park()
    told = []
    place = 0
    while place < len(calls):
        call = calls[place]
        numbers_end = place + 1 + NUMBERS[call]
        numbers = calls[place + 1:numbers_end]
        row = []
        place = numbers_end
        if ROWS[call] == 1:
            place = numbers_end + 1 + calls[numbers_end]
            row = calls[numbers_end + 1:place]
        answer = answer_of(park, call, numbers, row)
        told.append(len(answer))
        told.extend(answer)
    return told


def answer_of(park, call, numbers, row):
    if call == LOAD:
        return load(park, row)
    if park.day is None:
        return [NO_DAY]
    if call <= PRICE:
        return answer_of_change(park.day, call, numbers, row)
    if call in (PLAN, LOADS, PROOF):
        return answer_of_plan(park.day, call)
    if call >= SPARE:
        return answer_of_one(park.day, call, numbers[0])
    return answer_of_telling(park.day, call, row)


def load(park, text):
    if len(text) > MOST_BYTES:
        return [TOO_LONG]
    lines = lines_of(text)
    fault = first_fault(lines)
    if len(fault) > 0:
        return [FAULT] + fault
    park.day = day_of(lines)
    return [0, len(park.day.supplies), len(park.day.cars)]


def answer_of_change(day, call, numbers, row):
    if call == CAR:
        return put_car(day, numbers, row)
    if call == GONE:
        return take_away(day, numbers[0])
    if call == SUPPLY:
        return set_supply(day, numbers[0], numbers[1])
    return set_price(day, numbers[0], numbers[1])


def answer_of_telling(day, call, row):
    if call == TEXT:
        return tell_text(day)
    if call == CAN:
        return tell_can(day)
    if call == ASKS:
        return tell_asks(day, row)
    if call == MOST:
        return tell_most(day)
    if call == PROVES:
        return tell_proves(day, row)
    if call == JUDGE:
        return tell_judge(day, row)
    # The one that is left is refuse, 14.
    return tell_refuse(day)


def answer_of_plan(day, call):
    if not all_filled(day.cars, day.supplies):
        return [NOT_FILLED]
    if call == PLAN:
        return [0] + cost_and_plan(day)
    if call == LOADS:
        return [0] + told_loads(day)
    return [0] + told_proof(day)


def answer_of_one(day, call, number):
    there_are = len(day.supplies)
    if call in (MORE, LATE):
        there_are = len(day.cars)
    if number >= there_are:
        return [NO_SUCH]
    if not all_filled(day.cars, day.supplies):
        return [NOT_FILLED]
    if call == NOW:
        return [0] + taken_and_left(day, number)
    return [0, margin_of(day, call, number)]


def margin_of(day, call, number):
    if call == SPARE:
        return spared(day, number)
    if call == GAIN:
        return gained(day, number)
    if call == MORE:
        return needed_more(day, number)
    return come_late(day, number)
