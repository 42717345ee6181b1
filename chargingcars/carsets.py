"""Sets of cars: what they want, what they get, by how much they ask too much."""

from chargingcars.days import can_take


# Each car doubles the list, so every set stands at its number, the sum of 2^c of its cars c.
def all_sets(cars):
    sets = [[]]
    for car in cars:
        sets = sets + [chosen + [car] for chosen in sets]
    return sets


def counted_members(number, count):
    cars = [car for car in range(count) if (number >> car) & 1 == 1]
    return [len(cars)] + cars


def wants(chosen):
    return sum([car.need for car in chosen])


def gets(chosen, supplies, slot):
    return min(supplies[slot], sum([can_take(car, slot) for car in chosen]))


def room(chosen, supplies):
    return sum([gets(chosen, supplies, slot) for slot in range(len(supplies))])


def too_much(chosen, supplies):
    return max(0, wants(chosen) - room(chosen, supplies))


# What some set can't get in the other slots has to be had in this one by every plan.
def wanted_there(sets, supplies, slot):
    return max([wants(chosen) - room(chosen, supplies) + gets(chosen, supplies, slot) for chosen in sets])


def excesses(cars, supplies):
    return [too_much(chosen, supplies) for chosen in all_sets(cars)]


def worst_excess(cars, supplies):
    return max(excesses(cars, supplies))


def all_filled(cars, supplies):
    return worst_excess(cars, supplies) == 0


# The first place of the worst excess is the least number of such a set.
def worst_set(cars, supplies):
    return excesses(cars, supplies).index(worst_excess(cars, supplies))
