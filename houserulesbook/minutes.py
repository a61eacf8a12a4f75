"""The passing of a minute."""

from houserulesbook.conditions import holds, total

MINUTES_OF_A_DAY = 1440
MOST_VALUE = 999


def speaks(rule):
    return rule.count > rule.delay


def hold_lasts(thing, clock):
    return thing.hold is not None and thing.hold.end > clock


# What each name stands for now. No name is "time", so it can stand among them.
def readings_of(house):
    readings = dict(house.sensors)
    for name, thing in house.things.items():
        readings[name] = thing.value
    readings["time"] = house.clock % MINUTES_OF_A_DAY
    return readings


def count_minute(rule, readings):
    if holds(rule.condition, readings):
        rule.count = min(rule.count + 1, rule.delay + 1)
    else:
        rule.count = 0


# A later candidate wins only by a higher rank: that puts the hold first among equals, then the older rule.
def find_target(house, name, readings):
    thing = house.things[name]
    rank = -1
    if hold_lasts(thing, house.clock):
        rank = thing.hold.rank
        thing.target = thing.hold.value
        thing.origin = ("hold",)
    for rule_name, rule in house.rules.items():
        if rule.thing == name and speaks(rule) and rule.rank > rank:
            rank = rule.rank
            thing.target = max(0, min(total(rule.amount, readings), MOST_VALUE))
            thing.origin = ("rule", rule_name)


# All that a minute does behind the advance of the clock. The readings are taken once and ahead of all
# changes, so that no rule sees what another one has done in the same minute.
def settle(house):
    readings = readings_of(house)
    for rule in house.rules.values():
        count_minute(rule, readings)
    for name in house.things:
        find_target(house, name, readings)
    for thing in house.things.values():
        if not thing.deaf:
            thing.value = thing.target


def pass_minute(house):
    house.clock += 1
    settle(house)


# A value may still change by hand until the clock advances, so a minute is recorded only when it is over.
def record_minute(house):
    for thing in house.things.values():
        thing.past.append(thing.value)
