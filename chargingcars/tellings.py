"""The calls that tell of the day. Each gives back what it answers and changes nothing."""

from chargingcars.carsets import members, room, wants, worst_excess, worst_set
from chargingcars.plans import cost_of, told_loads, told_plan
from chargingcars.refusals import NO_SUCH, NOT_FILLED, OUT_OF_BOUNDS
from chargingcars.texts import text_of


def tell_text(day):
    return [0] + text_of(day)


def tell_can(day):
    excess = worst_excess(day.cars, day.supplies)
    if excess == 0:
        return [0, 1]
    cars = members(worst_set(day.cars, day.supplies), len(day.cars))
    return [0, 0, excess, len(cars)] + cars


def tell_asks(day, row):
    if any([number >= len(day.cars) for number in row]):
        return [NO_SUCH]
    if len(set(row)) < len(row):
        return [OUT_OF_BOUNDS]
    chosen = [day.cars[number] for number in row]
    return [0, wants(chosen), room(chosen, day.supplies)]


# What can't be charged at most is what the worst set asks too much by.
def tell_most(day):
    return [0, wants(day.cars) - worst_excess(day.cars, day.supplies)]


def tell_plan(day):
    if worst_excess(day.cars, day.supplies) > 0:
        return [NOT_FILLED]
    loads = told_loads(day)
    return [0, cost_of(loads, day.prices)] + told_plan(day, loads)
