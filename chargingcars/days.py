"""A day: its slots with their supplies and prices, and the cars that come."""

MOST_SLOTS = 12
MOST_CARS = 6
MOST_SUPPLY = 60
MOST_PRICE = 999
MOST_NEED = 99
MOST_RATE = 20


# A car is there from slot comes to slot leaves - 1. Names are lists of bytes here and below.
class Car:
    def __init__(self, name, comes, leaves, need, rate):
        self.name = name
        self.comes = comes
        self.leaves = leaves
        self.need = need
        self.rate = rate


class Day:
    def __init__(self, name, supplies, prices, cars):
        self.name = name
        self.supplies = supplies
        self.prices = prices
        self.cars = cars


def stay_fits(comes, leaves, slots):
    return comes < leaves and leaves <= slots


def need_and_rate_fit(need, rate):
    return need <= MOST_NEED and 1 <= rate and rate <= MOST_RATE


def can_take(car, slot):
    if car.comes <= slot and slot < car.leaves:
        return car.rate
    return 0


# Where no car has the name the place is that of a new one, behind the last.
def place_of(name, cars):
    for number in range(len(cars)):
        if cars[number].name == name:
            return number
    return len(cars)
