"""Whether rows of what each car takes in each slot are a plan, and if not, what is wrong first."""

from chargingcars.days import can_take
from chargingcars.plans import loads_of

MORE_THAN_IT_CAN = 1
NOT_ITS_NEED = 2
MORE_THAN_THERE_IS = 3


# Empty for a plan; else the least kind that is so, and its two numbers.
def wrong_of(rows, day):
    wrong = more_than_it_can(rows, day)
    if len(wrong) == 0:
        wrong = not_its_need(rows, day)
    if len(wrong) == 0:
        wrong = more_than_there_is(rows, day)
    return wrong


def more_than_it_can(rows, day):
    for number in range(len(rows)):
        for slot in range(len(day.supplies)):
            if rows[number][slot] > can_take(day.cars[number], slot):
                return [MORE_THAN_IT_CAN, number, slot]
    return []


def not_its_need(rows, day):
    for number in range(len(rows)):
        if sum(rows[number]) != day.cars[number].need:
            return [NOT_ITS_NEED, number, 0]
    return []


def more_than_there_is(rows, day):
    loads = loads_of(rows, len(day.supplies))
    for slot in range(len(loads)):
        if loads[slot] > day.supplies[slot]:
            return [MORE_THAN_THERE_IS, slot, 0]
    return []
