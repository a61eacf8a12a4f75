"""The forms of all commands: which arguments each has, and in which ranges their numbers lie."""

from houserulesbook.conditions import read_condition, read_sum
from houserulesbook.reader import NoForm, Reader, take_name, take_number

RANGES = {
    "value": (0, 999),
    "rank": (0, 9),
    "delay": (0, 20),
    "length": (1, 999),
    "minutes": (1, 500),
    "minute": (0, 99999),
    "ahead": (1, 100),
}
# The form of a rule is not among these: it has words of its own between its arguments.
FORMS = {
    "sensor": ("name", "value"),
    "thing": ("name", "value"),
    "set": ("name", "value"),
    "deaf": ("name",),
    "hears": ("name",),
    "hand": ("name", "value"),
    "hold": ("name", "value", "rank", "length"),
    "free": ("name",),
    "drop": ("name",),
    "tick": ("minutes",),
    "state": (),
    "was": ("name", "minute"),
    "list": (),
    "why": ("name",),
    "whynot": ("name",),
    "rings": (),
    "rest": (),
    "try": ("name", "value", "ahead"),
}


def take_argument(reader, kind):
    if kind == "name":
        return take_name(reader)
    ends = RANGES[kind]
    return take_number(reader, ends[0], ends[1])


def take_rule(reader):
    name = take_name(reader)
    rank = take_argument(reader, "rank")
    reader.expect("after")
    delay = take_argument(reader, "delay")
    reader.expect("if")
    condition = read_condition(reader, 0)
    reader.expect("then")
    thing = take_name(reader)
    reader.expect("is")
    return [name, rank, delay, condition, thing, read_sum(reader)]


def take_arguments(reader, word):
    if word == "rule":
        return take_rule(reader)
    if word not in FORMS:
        raise NoForm()
    return [take_argument(reader, kind) for kind in FORMS[word]]


def read_arguments(words):
    reader = Reader(words)
    arguments = take_arguments(reader, reader.take())
    reader.finish()
    return arguments
