"""What would become of a house: whether it comes to rest, and what a sensor would change."""

from houserulesbook.conditions import names_in_condition, names_in_sum
from houserulesbook.minutes import pass_minute, settle
from houserulesbook.model import twin_of_house

LAST_SNAPSHOT = 100


def snapshot(house):
    things = [(thing.value, thing.target, thing.origin) for thing in house.things.values()]
    counts = [rule.count for rule in house.rules.values()]
    return (tuple(things), tuple(counts))


# With the clock still, a snapshot decides all that follows it, so the first one that comes back tells the rest.
def find_rest(house):
    twin = twin_of_house(house)
    seen = {snapshot(twin): 0}
    for place in range(1, LAST_SNAPSHOT + 1):
        settle(twin)
        shot = snapshot(twin)
        if shot in seen:
            first = seen[shot]
            period = place - first
            return f"rest {first}" if period == 1 else f"round {first} {period}"
        seen[shot] = place
    return "more"


def house_ahead(house, sensor, value, minutes):
    twin = twin_of_house(house)
    twin.sensors[sensor] = value
    for minute in range(minutes):
        pass_minute(twin)
    return twin


def direct_needs(house, name):
    needs = []
    for rule in house.rules.values():
        if rule.thing == name:
            needs.extend(names_in_condition(rule.condition))
            needs.extend(names_in_sum(rule.amount))
    return [need for need in needs if need in house.things]


def is_circular(house, name):
    reached = {}
    waiting = direct_needs(house, name)
    while waiting:
        need = waiting.pop()
        if need not in reached:
            reached[need] = True
            waiting.extend(direct_needs(house, need))
    return name in reached
