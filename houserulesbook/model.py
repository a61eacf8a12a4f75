"""A house, and what there is in it."""


class Hold:
    def __init__(self, value, rank, end):
        self.value = value
        self.rank = rank
        self.end = end


class Thing:
    def __init__(self, value, born):
        self.value = value
        self.target = value
        # The words that tell where the target comes from.
        self.origin = ("none",)
        self.deaf = False
        self.hold = None
        self.born = born
        # The values at the ends of the minutes that are over, from the minute of birth on.
        self.past = []


class Rule:
    def __init__(self, rank, delay, condition, thing, amount):
        self.rank = rank
        self.delay = delay
        self.condition = condition
        self.thing = thing
        self.amount = amount
        self.count = 0


# Sensors are kept by their values alone; the order of each dict is the order of creation.
class House:
    def __init__(self):
        self.clock = 0
        self.sensors = {}
        self.things = {}
        self.rules = {}


# A twin looks ahead and is asked for no past, so it takes none along.
def twin_of_thing(thing):
    twin = Thing(thing.value, thing.born)
    twin.target = thing.target
    twin.origin = thing.origin
    twin.deaf = thing.deaf
    twin.hold = thing.hold
    return twin


def twin_of_rule(rule):
    twin = Rule(rule.rank, rule.delay, rule.condition, rule.thing, rule.amount)
    twin.count = rule.count
    return twin


def twin_of_house(house):
    twin = House()
    twin.clock = house.clock
    twin.sensors = dict(house.sensors)
    for name, thing in house.things.items():
        twin.things[name] = twin_of_thing(thing)
    for name, rule in house.rules.items():
        twin.rules[name] = twin_of_rule(rule)
    return twin
