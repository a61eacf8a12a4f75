"""The queries: they answer about the house and leave it as it is."""

from houserulesbook.conditions import comparisons, compares, holds, show_comparison, show_condition, show_sum
from houserulesbook.foresight import find_rest, house_ahead, is_circular
from houserulesbook.minutes import readings_of, speaks


def show_list(entries):
    return "\n".join([str(len(entries))] + entries)


def show_named_value(name, value):
    return f"{name} {value}"


def show_thing(name, thing):
    words = [name, str(thing.value), str(thing.target)] + list(thing.origin)
    if thing.deaf:
        words.append("deaf")
    return " ".join(words)


def tell_state(house, arguments):
    sensors = [show_named_value(name, value) for name, value in house.sensors.items()]
    things = [show_thing(name, thing) for name, thing in house.things.items()]
    return show_list(sensors + things)


def tell_past(house, arguments):
    if arguments[0] not in house.things:
        return "no thing"
    thing = house.things[arguments[0]]
    minute = arguments[1]
    if minute > house.clock or minute < thing.born:
        return "no time"
    if minute == house.clock:
        return str(thing.value)
    return str(thing.past[minute - thing.born])


def show_rule(name, rule):
    head = [name, str(rule.rank), "after", str(rule.delay)]
    body = ["if", show_condition(rule.condition), "then", rule.thing, "is", show_sum(rule.amount)]
    return " ".join(head + body)


def tell_rules(house, arguments):
    return show_list([show_rule(name, rule) for name, rule in house.rules.items()])


def show_comparisons(house, condition):
    readings = readings_of(house)
    entries = []
    for comparison in comparisons(condition):
        verdict = "yes" if compares(comparison, readings) else "no"
        entries.append(show_comparison(comparison) + " " + verdict)
    return entries


def explain_hold(thing):
    if thing.hold is None:
        return "hold"
    return " ".join(["hold", str(thing.hold.value), str(thing.hold.rank), str(thing.hold.end)])


def explain_rule(house, name):
    if name not in house.rules:
        return f"rule {name} gone"
    rule = house.rules[name]
    head = " ".join(["rule", name, str(rule.rank), str(rule.count)])
    return show_list([head] + show_comparisons(house, rule.condition))


def tell_why(house, arguments):
    if arguments[0] not in house.things:
        return "no thing"
    thing = house.things[arguments[0]]
    kind = thing.origin[0]
    if kind == "hold":
        return explain_hold(thing)
    if kind == "rule":
        return explain_rule(house, thing.origin[1])
    return kind


def explain_silence(house, rule):
    if holds(rule.condition, readings_of(house)):
        return "waits " + str(rule.count)
    return show_list(["silent"] + show_comparisons(house, rule.condition))


def explain_speech(house, rule):
    above = []
    for name, other in house.rules.items():
        if other.thing == rule.thing and speaks(other) and other.rank > rule.rank:
            above.append(show_named_value(name, other.rank))
    return show_list(["over"] + above) if above else "speaks"


def tell_why_not(house, arguments):
    if arguments[0] not in house.rules:
        return "no rule"
    rule = house.rules[arguments[0]]
    return explain_speech(house, rule) if speaks(rule) else explain_silence(house, rule)


def tell_rings(house, arguments):
    return show_list([name for name in house.things if is_circular(house, name)])


def tell_rest(house, arguments):
    return find_rest(house)


def tell_trial(house, arguments):
    if arguments[0] not in house.sensors:
        return "no sensor"
    ahead = house_ahead(house, arguments[0], arguments[1], arguments[2])
    return show_list([show_named_value(name, thing.value) for name, thing in ahead.things.items()])


QUERIES = {
    "state": tell_state,
    "was": tell_past,
    "list": tell_rules,
    "why": tell_why,
    "whynot": tell_why_not,
    "rings": tell_rings,
    "rest": tell_rest,
    "try": tell_trial,
}


def is_query(word):
    return word in QUERIES


def answer_query(house, word, arguments):
    tell = QUERIES[word]
    return tell(house, arguments)
