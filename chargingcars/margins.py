"""What could be spared, gained, needed more or come late, and who would have to be refused."""

from chargingcars.carsets import all_filled, all_sets, room, wanted_there, wants
from chargingcars.days import Car, Day
from chargingcars.plans import least_cost


def spared(day, slot):
    return day.supplies[slot] - wanted_there(all_sets(day.cars), day.supplies, slot)


def gained(day, slot):
    supplies = list(day.supplies)
    supplies[slot] = supplies[slot] + 1
    return least_cost(day) - least_cost(Day(day.name, supplies, day.prices, day.cars))


# A car that needs more makes just the sets ask for more that it is in.
def needed_more(day, number):
    others = day.cars[:number] + day.cars[number + 1:]
    with_it = [chosen + [day.cars[number]] for chosen in all_sets(others)]
    return min([room(chosen, day.supplies) - wants(chosen) for chosen in with_it])


# The later a car comes the less its sets get: behind the first that is too late none fits.
def come_late(day, number):
    car = day.cars[number]
    later = 0
    while car.comes + later + 1 < car.leaves and filled_if_late(day, number, later + 1):
        later = later + 1
    return later


def filled_if_late(day, number, later):
    car = day.cars[number]
    late = Car(car.name, car.comes + later, car.leaves, car.need, car.rate)
    return all_filled(day.cars[:number] + [late] + day.cars[number + 1:], day.supplies)


# The cars that a set leaves stand as far from the end of all sets as it does from their beginning.
# The walk ends: without any car none is left to be filled.
def refused_set(day):
    sets = all_sets(day.cars)
    ranked = sorted(range(len(sets)), key=lambda number: (len(sets[number]), wants(sets[number]), number))
    place = 0
    while not all_filled(sets[len(sets) - 1 - ranked[place]], day.supplies):
        place = place + 1
    return ranked[place]
