"""The commands that change the house. Each checks all its errors ahead of its first change."""

from houserulesbook.conditions import names_in_condition, names_in_sum
from houserulesbook.minutes import hold_lasts, pass_minute, record_minute
from houserulesbook.model import Hold, Rule, Thing

MOST_SENSORS = 4
MOST_THINGS = 4
MOST_RULES = 6


def is_taken(house, name):
    return name in house.sensors or name in house.things or name in house.rules


def add_sensor(house, arguments):
    name = arguments[0]
    if is_taken(house, name):
        return "no name"
    if len(house.sensors) >= MOST_SENSORS:
        return "no many"
    house.sensors[name] = arguments[1]
    return "ok"


def add_thing(house, arguments):
    name = arguments[0]
    if is_taken(house, name):
        return "no name"
    if len(house.things) >= MOST_THINGS:
        return "no many"
    house.things[name] = Thing(arguments[1], house.clock)
    return "ok"


def set_sensor(house, arguments):
    name = arguments[0]
    if name not in house.sensors:
        return "no sensor"
    house.sensors[name] = arguments[1]
    return "ok"


def set_deaf(house, name, deaf):
    if name not in house.things:
        return "no thing"
    house.things[name].deaf = deaf
    return "ok"


def make_deaf(house, arguments):
    return set_deaf(house, arguments[0], True)


def make_hear(house, arguments):
    return set_deaf(house, arguments[0], False)


def move_by_hand(house, arguments):
    name = arguments[0]
    if name not in house.things:
        return "no thing"
    thing = house.things[name]
    thing.value = arguments[1]
    if not thing.deaf:
        thing.target = arguments[1]
        thing.origin = ("hand",)
    return "ok"


def hold_thing(house, arguments):
    name = arguments[0]
    if name not in house.things:
        return "no thing"
    end = house.clock + arguments[3]
    house.things[name].hold = Hold(arguments[1], arguments[2], end)
    return f"ok {end}"


def free_thing(house, arguments):
    name = arguments[0]
    if name not in house.things:
        return "no thing"
    thing = house.things[name]
    if not hold_lasts(thing, house.clock):
        return "no hold"
    thing.hold = None
    return "ok"


def has_value(house, name):
    return name in house.sensors or name in house.things


def add_rule(house, arguments):
    name = arguments[0]
    condition = arguments[3]
    thing = arguments[4]
    amount = arguments[5]
    if is_taken(house, name):
        return "no name"
    if thing not in house.things:
        return "no thing"
    if not all([has_value(house, used) for used in names_in_condition(condition) + names_in_sum(amount)]):
        return "no value"
    if len(house.rules) >= MOST_RULES:
        return "no many"
    house.rules[name] = Rule(arguments[1], arguments[2], condition, thing, amount)
    return "ok"


def drop_rule(house, arguments):
    name = arguments[0]
    if name not in house.rules:
        return "no rule"
    house.rules.pop(name)
    return "ok"


def pass_minutes(house, arguments):
    for minute in range(arguments[0]):
        record_minute(house)
        pass_minute(house)
    clock = house.clock
    return f"ok {clock}"


CHANGES = {
    "sensor": add_sensor,
    "thing": add_thing,
    "set": set_sensor,
    "deaf": make_deaf,
    "hears": make_hear,
    "hand": move_by_hand,
    "hold": hold_thing,
    "free": free_thing,
    "rule": add_rule,
    "drop": drop_rule,
    "tick": pass_minutes,
}


def change(house, word, arguments):
    act = CHANGES[word]
    return act(house, arguments)
