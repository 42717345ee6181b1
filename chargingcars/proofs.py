"""What sets of cars prove: for each price, how much every plan takes at it and dearer."""

from chargingcars.carsets import counted_members, too_much, wants, worst_excess, worst_set


def prices_but_least(prices):
    return sorted(set(prices))[1:]


# With nothing in the other slots, what a set asks for above what it gets in the cheaper ones is
# what it asks too much by.
def cheaper_supplies(day, price):
    return [supply if cost < price else 0 for supply, cost in zip(day.supplies, day.prices)]


def told_proof(day):
    prices = prices_but_least(day.prices)
    told = [len(prices)]
    for price in prices:
        supplies = cheaper_supplies(day, price)
        told.extend([price, worst_excess(day.cars, supplies)])
        told.extend(counted_members(worst_set(day.cars, supplies), len(day.cars)))
    return told


def proven_cost(day, chosen_sets):
    before = min(day.prices)
    cost = before * wants(day.cars)
    for price, chosen in zip(prices_but_least(day.prices), chosen_sets):
        cost = cost + (price - before) * too_much(chosen, cheaper_supplies(day, price))
        before = price
    return cost
