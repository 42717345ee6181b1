"""The calls that change the day. Each gives back what it answers; a refusal changes nothing."""

from chargingcars.days import MOST_CARS, MOST_PRICE, MOST_SUPPLY
from chargingcars.days import Car, need_and_rate_fit, place_of, stay_fits
from chargingcars.refusals import NO_SUCH, OUT_OF_BOUNDS, SIX_CARS
from chargingcars.words import is_name


def put_car(day, numbers, name):
    car = Car(name, numbers[0], numbers[1], numbers[2], numbers[3])
    if not could_stand(day, car):
        return [OUT_OF_BOUNDS]
    place = place_of(name, day.cars)
    if place == MOST_CARS:
        return [SIX_CARS]
    day.cars = day.cars[:place] + [car] + day.cars[place + 1:]
    return [0, len(day.cars)]


def could_stand(day, car):
    if not is_name(car.name) or not need_and_rate_fit(car.need, car.rate):
        return False
    return stay_fits(car.comes, car.leaves, len(day.supplies))


def take_away(day, number):
    if number >= len(day.cars):
        return [NO_SUCH]
    day.cars = day.cars[:number] + day.cars[number + 1:]
    return [0, len(day.cars)]


def set_supply(day, slot, supply):
    return set_in_slot(day.supplies, slot, supply, MOST_SUPPLY)


def set_price(day, slot, price):
    return set_in_slot(day.prices, slot, price, MOST_PRICE)


def set_in_slot(row, slot, number, most):
    if slot >= len(row):
        return [NO_SUCH]
    if number > most:
        return [OUT_OF_BOUNDS]
    row[slot] = number
    return [0]
