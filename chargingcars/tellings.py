"""The calls that tell of the day, whether all can be filled or not. They change nothing."""

from chargingcars.carsets import all_sets, counted_members, room, wants, worst_excess, worst_set
from chargingcars.judging import wrong_of
from chargingcars.margins import refused_set
from chargingcars.plans import cost_of, loads_of, rows_of
from chargingcars.proofs import prices_but_least, proven_cost
from chargingcars.refusals import NO_SUCH, OUT_OF_BOUNDS
from chargingcars.texts import text_of


def tell_text(day):
    return [0] + text_of(day)


def tell_can(day):
    excess = worst_excess(day.cars, day.supplies)
    if excess == 0:
        return [0, 1]
    return [0, 0, excess] + counted_members(worst_set(day.cars, day.supplies), len(day.cars))


def tell_asks(day, row):
    if any([number >= len(day.cars) for number in row]):
        return [NO_SUCH]
    if len(set(row)) < len(row):
        return [OUT_OF_BOUNDS]
    chosen = [day.cars[number] for number in row]
    return [0, wants(chosen), room(chosen, day.supplies)]


# What can't be charged at most is what the worst set asks too much by.
def tell_most(day):
    return [0, wants(day.cars) - worst_excess(day.cars, day.supplies)]


def tell_proves(day, row):
    sets = all_sets(day.cars)
    if len(row) != len(prices_but_least(day.prices)):
        return [OUT_OF_BOUNDS]
    if any([number >= len(sets) for number in row]):
        return [OUT_OF_BOUNDS]
    return [0, proven_cost(day, [sets[number] for number in row])]


def tell_judge(day, row):
    slots = len(day.supplies)
    if len(row) != slots * len(day.cars):
        return [OUT_OF_BOUNDS]
    rows = rows_of(row, day)
    wrong = wrong_of(rows, day)
    if len(wrong) > 0:
        return [0, 1] + wrong
    return [0, 0, cost_of(loads_of(rows, slots), day.prices)]


def tell_refuse(day):
    return [0] + counted_members(refused_set(day), len(day.cars))
