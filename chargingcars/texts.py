"""A day's text: its first fault, the day that it tells, and the text of a day."""

from chargingcars.days import MOST_CARS, MOST_PRICE, MOST_SLOTS, MOST_SUPPLY
from chargingcars.days import Car, Day, need_and_rate_fit, stay_fits
from chargingcars.words import BLANK, LINE_END, digits, is_name, is_number, is_number_within
from chargingcars.words import line_of, number_of, parts, signs

FIRST_CAR_LINE = 3

NO_FAULT = 0
NO_SUCH_LINE = 1
OTHER_COUNT = 2
NO_STAY = 3
NAME_AGAIN = 4
CAR_TOO_MANY = 5


# Each line as its words. The last one is what is behind the last byte 10: it takes the place
# of the line that would come there, so that a fault of it has that line's number.
def lines_of(text):
    return [parts(line, BLANK) for line in parts(text, LINE_END)]


def first_fault(lines):
    for number in range(len(lines)):
        kind = kind_of_fault(lines, number)
        if kind != NO_FAULT:
            return [number, kind]
    return []


# The lines before this one have no fault: else theirs would have been the first.
def kind_of_fault(lines, number):
    words = lines[number]
    if number == len(lines) - 1:
        return fault_behind_last(words, number)
    if number == 0:
        return fault_of_first(words)
    slots = number_of(lines[0][2])
    if number == 1:
        return fault_of_row(words, "supply", MOST_SUPPLY, slots)
    if number == 2:
        return fault_of_row(words, "price", MOST_PRICE, slots)
    names_before = [before[1] for before in lines[FIRST_CAR_LINE:number]]
    return fault_of_car(words, names_before, slots)


def fault_behind_last(words, number):
    if number < FIRST_CAR_LINE or words != [[]]:
        return NO_SUCH_LINE
    return NO_FAULT


def fault_of_first(words):
    if len(words) != 3 or words[0] != signs("day") or not is_name(words[1]):
        return NO_SUCH_LINE
    if not is_number_within(words[2], 1, MOST_SLOTS):
        return NO_SUCH_LINE
    return NO_FAULT


def fault_of_row(words, head, most, slots):
    if words[0] != signs(head):
        return NO_SUCH_LINE
    if not all([is_number_within(word, 0, most) for word in words[1:]]):
        return NO_SUCH_LINE
    if len(words) - 1 != slots:
        return OTHER_COUNT
    return NO_FAULT


def fault_of_car(words, names_before, slots):
    if not is_car_line(words):
        return NO_SUCH_LINE
    if not stay_fits(number_of(words[2]), number_of(words[3]), slots):
        return NO_STAY
    if words[1] in names_before:
        return NAME_AGAIN
    if len(names_before) >= MOST_CARS:
        return CAR_TOO_MANY
    return NO_FAULT


# A and B need only be numbers here: their bounds are a fault of another kind.
def is_car_line(words):
    if len(words) != 6 or words[0] != signs("car") or not is_name(words[1]):
        return False
    if not all([is_number(word) for word in words[2:]]):
        return False
    return need_and_rate_fit(number_of(words[4]), number_of(words[5]))


def day_of(lines):
    supplies = [number_of(word) for word in lines[1][1:]]
    prices = [number_of(word) for word in lines[2][1:]]
    cars = [car_of(words) for words in lines[FIRST_CAR_LINE:-1]]
    return Day(lines[0][1], supplies, prices, cars)


def car_of(words):
    numbers = [number_of(word) for word in words[2:]]
    return Car(words[1], numbers[0], numbers[1], numbers[2], numbers[3])


def text_of(day):
    text = line_of([signs("day"), day.name, digits(len(day.supplies))])
    text.extend(line_of([signs("supply")] + [digits(supply) for supply in day.supplies]))
    text.extend(line_of([signs("price")] + [digits(price) for price in day.prices]))
    for car in day.cars:
        numbers = [car.comes, car.leaves, car.need, car.rate]
        text.extend(line_of([signs("car"), car.name] + [digits(number) for number in numbers]))
    return text
