"""The told loads and the told plan of a day on which all can be filled."""

from chargingcars.carsets import all_sets, wanted_there
from chargingcars.days import can_take


def dearest_first(prices):
    return sorted(range(len(prices)), key=lambda slot: (prices[slot], slot), reverse=True)


# There is a plan just if no set asks too much, so a slot can be lowered to what some set can't
# get elsewhere, and no further. A slot that is lowered already is full in every plan that keeps
# within the loads: it could not have had less.
def told_loads(day):
    sets = all_sets(day.cars)
    loads = list(day.supplies)
    for slot in dearest_first(day.prices):
        loads[slot] = wanted_there(sets, loads, slot)
    return loads


# The cars before this one have what they need, so what it may take in a slot is bound by its
# rate and by what the cars behind it can't get elsewhere. The loads together are just what all
# need: so what all cars behind it want keeps it from taking more than it needs.
def told_plan(day, loads):
    left = list(loads)
    slots = len(loads)
    plan = []
    for number in range(len(day.cars)):
        sets_behind = all_sets(day.cars[number + 1:])
        for slot in range(slots):
            free = left[slot] - wanted_there(sets_behind, left, slot)
            taken = min(can_take(day.cars[number], slot), free)
            left[slot] = left[slot] - taken
            plan.append(taken)
    return plan


def cost_of(loads, prices):
    return sum([load * price for load, price in zip(loads, prices)])


def least_cost(day):
    return cost_of(told_loads(day), day.prices)


def cost_and_plan(day):
    loads = told_loads(day)
    return [cost_of(loads, day.prices)] + told_plan(day, loads)


def rows_of(plan, day):
    slots = len(day.supplies)
    return [plan[number * slots:(number + 1) * slots] for number in range(len(day.cars))]


def loads_of(rows, slots):
    return [sum([row[slot] for row in rows]) for slot in range(slots)]


def taken_and_left(day, slot):
    told = []
    for row in rows_of(told_plan(day, told_loads(day)), day):
        told.extend([row[slot], sum(row[slot + 1:])])
    return told
