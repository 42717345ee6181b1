"""Other ways to the answers, for the tests: all plans one by one, and flows."""

from itertools import product


def takes(one, slot):
    return one[3] if one[0] <= slot < one[1] else 0


def all_plans(supplies, cars):
    """Every plan, as for each car a tuple of what it takes in each slot."""
    found = [()]
    for one in cars:
        ranges = [range(takes(one, slot) + 1) for slot in range(len(supplies))]
        rows = [row for row in product(*ranges) if sum(row) == one[2]]
        found = [plan + (row,) for plan in found for row in rows if within(plan + (row,), supplies)]
    return found


def within(plan, supplies):
    return all(load <= there for load, there in zip(loads_of(plan, len(supplies)), supplies))


def loads_of(plan, slots):
    return [sum(row[slot] for row in plan) for slot in range(slots)]


def cost_of(plan, prices):
    return sum(load * cost for load, cost in zip(loads_of(plan, len(prices)), prices))


def dearest_first(prices):
    """The dearest slot each time, of equal prices the latest."""
    left = list(range(len(prices)))
    order = []
    while left:
        dearest = max(prices[slot] for slot in left)
        slot = [slot for slot in left if prices[slot] == dearest][-1]
        order.append(slot)
        left.remove(slot)
    return order


def told_of_all(plans, prices):
    """The told plan among all plans, by the document's words."""
    for slot in dearest_first(prices):
        least = min(loads_of(plan, len(prices))[slot] for plan in plans)
        plans = [plan for plan in plans if loads_of(plan, len(prices))[slot] == least]
    for number in range(len(plans[0])):
        for slot in range(len(prices)):
            most = max(plan[number][slot] for plan in plans)
            plans = [plan for plan in plans if plan[number][slot] == most]
    assert len(plans) == 1
    return plans[0]


def most_charged(needs, caps, supplies):
    """The greatest flow from the cars to the slots, one unit a time."""
    flow = [[0] * len(supplies) for need in needs]
    charged = 0
    while one_unit_more(needs, caps, supplies, flow):
        charged += 1
    return charged


def one_unit_more(needs, caps, supplies, flow):
    """Adds one unit along a path of slots that pass a unit on, if there is one."""
    reached = {("car", number): None for number in range(len(needs)) if sum(flow[number]) < needs[number]}
    waiting = list(reached)
    while waiting:
        node = waiting.pop(0)
        if node[0] == "car":
            onward = [("slot", slot) for slot in range(len(supplies)) if flow[node[1]][slot] < caps[node[1]][slot]]
        else:
            if sum(row[node[1]] for row in flow) < supplies[node[1]]:
                push_along(reached, node, flow)
                return True
            onward = [("car", number) for number in range(len(needs)) if flow[number][node[1]] > 0]
        for other in onward:
            if other not in reached:
                reached[other] = node
                waiting.append(other)
    return False


def push_along(reached, node, flow):
    while reached[node] is not None:
        before = reached[node]
        if node[0] == "slot":
            flow[before[1]][node[1]] += 1
        else:
            flow[node[1]][before[1]] -= 1
        node = before


def caps_of(cars, slots):
    return [[takes(one, slot) for slot in range(slots)] for one in cars]


def most_of_day(supplies, cars):
    return most_charged([one[2] for one in cars], caps_of(cars, len(supplies)), supplies)


def day_fills(supplies, cars):
    return min(supplies) >= 0 and most_of_day(supplies, cars) == sum(one[2] for one in cars)


def fills(needs, caps, supplies):
    return min(supplies, default=0) >= 0 and min(needs, default=0) >= 0 \
        and most_charged(needs, caps, supplies) == sum(needs)


def told_by_flows(supplies, prices, cars):
    """The told loads and the told plan, each number tried by a flow."""
    needs = [one[2] for one in cars]
    caps = caps_of(cars, len(supplies))
    loads = list(supplies)
    for slot in dearest_first(prices):
        tried = list(loads)
        while fills(needs, caps, tried):
            loads[slot] = tried[slot]
            tried[slot] -= 1
    left = list(loads)
    plan = []
    for number in range(len(cars)):
        row = []
        for slot in range(len(supplies)):
            taken = greatest_take(needs, caps, left, number, slot)
            needs[number] -= taken
            left[slot] -= taken
            caps[number][slot] = 0
            row.append(taken)
        plan.append(tuple(row))
    return loads, tuple(plan)


def greatest_take(needs, caps, left, number, slot):
    for taken in range(caps[number][slot], -1, -1):
        rest = [need - taken * (k == number) for k, need in enumerate(needs)]
        lower = [load - taken * (k == slot) for k, load in enumerate(left)]
        closed = [list(row) for row in caps]
        closed[number][slot] = 0
        if fills(rest, closed, lower):
            return taken
    raise AssertionError("no plan")


def lower_load_fills(plan, supplies, prices, cars):
    """Whether a slot could have a lower load than by the plan, those before it as they are."""
    needs = [one[2] for one in cars]
    caps = caps_of(cars, len(supplies))
    loads = loads_of(plan, len(supplies))
    tried = list(supplies)
    for slot in dearest_first(prices):
        tried[slot] = loads[slot] - 1
        if fills(needs, caps, tried):
            return True
        tried[slot] = loads[slot]
    return False


def greater_take_fills(plan, cars):
    """Whether a car could take one more in a slot, the loads and what is told before as they are."""
    slots = len(plan[0])
    needs = [one[2] for one in cars]
    caps = caps_of(cars, slots)
    left = loads_of(plan, slots)
    for number, row in enumerate(plan):
        for slot, taken in enumerate(row):
            allowed = caps[number][slot]
            caps[number][slot] = 0
            needs[number] -= taken + 1
            left[slot] -= taken + 1
            if taken < allowed and fills(needs, caps, left):
                return True
            needs[number] += 1
            left[slot] += 1
    return False


def least_cost(supplies, prices, cars):
    """The least cost of a plan, by cheapest paths (Bellman and Ford), unit by unit."""
    needs = [one[2] for one in cars]
    caps = caps_of(cars, len(supplies))
    flow = [[0] * len(supplies) for one in cars]
    cost = 0
    for unit in range(sum(needs)):
        cost += cheapest_unit(needs, caps, supplies, prices, flow)
    return cost


def cheapest_unit(needs, caps, supplies, prices, flow):
    far = {("car", k): 0 for k in range(len(needs)) if sum(flow[k]) < needs[k]}
    before = {node: None for node in far}
    for turn in range(len(needs) + len(supplies)):
        for k in range(len(needs)):
            for slot in range(len(supplies)):
                there, back = ("car", k), ("slot", slot)
                if flow[k][slot] < caps[k][slot]:
                    shorten(far, before, there, back, prices[slot])
                if flow[k][slot] > 0:
                    shorten(far, before, back, there, -prices[slot])
    ends = [node for node in far if node[0] == "slot" and sum(row[node[1]] for row in flow) < supplies[node[1]]]
    end = min(ends, key=lambda node: far[node])
    push_along(before, end, flow)
    return far[end]


def shorten(far, before, node, other, cost):
    if node in far and (other not in far or far[node] + cost < far[other]):
        far[other] = far[node] + cost
        before[other] = node


def set_excess(supplies, cars, number):
    """By how much the set of that number asks too much."""
    chosen = [one for k, one in enumerate(cars) if number >> k & 1]
    return max(0, sum(one[2] for one in chosen) - set_room(supplies, chosen))


def set_room(supplies, chosen):
    return sum(min(there, sum(takes(one, slot) for one in chosen)) for slot, there in enumerate(supplies))


def worst(supplies, cars):
    """How much the worst set asks too much by, and its cars."""
    by = [set_excess(supplies, cars, number) for number in range(2 ** len(cars))]
    number = by.index(max(by))
    return max(by), [k for k in range(len(cars)) if number >> k & 1]


def cheaper(supplies, prices, q):
    """The supplies with nothing in the slots that cost q or more."""
    return [there if cost < q else 0 for there, cost in zip(supplies, prices)]


def proof_of(supplies, prices, cars):
    """What proof answers, but that how much is found by a flow."""
    dearer = sorted(q for q in set(prices) if q > min(prices))
    told = [0, len(dearer)]
    for q in dearer:
        there = cheaper(supplies, prices, q)
        by = [set_excess(there, cars, number) for number in range(2 ** len(cars))]
        amount = sum(one[2] for one in cars) - most_of_day(there, cars)
        number = by.index(amount)
        assert max(by) == amount
        chosen = [k for k in range(len(cars)) if number >> k & 1]
        told += [q, amount, len(chosen)] + chosen
    return told


def proven_by(supplies, prices, cars, sets):
    rising = sorted(set(prices))
    total = rising[0] * sum(one[2] for one in cars)
    for place, number in enumerate(sets):
        q = rising[place + 1]
        total += (q - rising[place]) * set_excess(cheaper(supplies, prices, q), cars, number)
    return total


def refused_of(supplies, cars):
    """The set that refuse tells, each tried by a flow."""
    found = []
    for number in range(2 ** len(cars)):
        away = [k for k in range(len(cars)) if number >> k & 1]
        if day_fills(supplies, [one for k, one in enumerate(cars) if k not in away]):
            found.append((len(away), sum(cars[k][2] for k in away), number, away))
    return min(found)[3]


def put(things, place, thing):
    return things[:place] + [thing] + things[place + 1:]


def with_supply(supplies, slot, change):
    return put(supplies, slot, supplies[slot] + change)


def with_need(cars, number, change):
    a, b, n, r = cars[number]
    return put(cars, number, (a, b, n + change, r))


def with_coming(cars, number, change):
    a, b, n, r = cars[number]
    return put(cars, number, (a + change, b, n, r))
