"""What the tests share: commands as texts, answers as texts, and houses drawn from a seed."""

import unittest

from houserulesbook.house import answers


def request(commands):
    """The calls for commands, each a text or a list of numbers."""
    if not 1 <= len(commands) <= 60:
        raise AssertionError("a request has from 1 to 60 calls")
    calls = []
    for command in commands:
        numbers = [ord(sign) for sign in command] if isinstance(command, str) else list(command)
        calls += [1, len(numbers)] + numbers + [0]
    return calls


def decode(numbers):
    """The answers of a result as texts; a refusal is -1."""
    texts = []
    place = 0
    while place < len(numbers):
        size = numbers[place]
        answer = numbers[place + 1:place + 1 + size]
        if len(answer) != size or not answer:
            raise AssertionError("an answer is cut short")
        if answer != [-1]:
            if answer[0] != size - 1:
                raise AssertionError("the length of an answer is wrong")
            answer = "".join([chr(number) for number in answer[1:]])
        texts.append(-1 if answer == [-1] else answer)
        place += 1 + size
    return texts


def ask(commands):
    return decode(answers(request(commands)))


def last(commands):
    return ask(commands)[-1]


def entries(answer):
    """The entries of a list, whose number is checked."""
    rows = answer.split("\n")
    if rows[0] != str(len(rows) - 1):
        raise AssertionError("the number of entries is wrong: " + answer)
    return rows[1:]


class HouseTest(unittest.TestCase):
    def check(self, rows):
        """Rows of a command and its answer, all on one house; `/` stands for byte 10."""
        got = ask([command for command, answer in rows])
        for (command, answer), text in zip(rows, got, strict=True):
            wanted = answer.replace(" / ", "\n") if isinstance(answer, str) else answer
            self.assertEqual(text, wanted, command)

    def check_each(self, before, rows):
        """Rows of a command and its answer, each on a house of its own behind the commands before."""
        for command, answer in rows:
            self.assertEqual(last(before + [command]), answer, command)

    def check_refused(self, before, command, answer):
        """The command is answered so, and all that can be seen of the house is as it was."""
        views = ["state", "list", "rest", "rings"]
        got = ask(before + views + [command] + views)
        size = len(views)
        self.assertEqual(got[-size - 1], answer, command)
        self.assertEqual(got[-size:], got[-2 * size - 1:-size - 1], command)


SENSORS = ["lux", "wind"]
THINGS = ["lamp", "blind", "door", "heat"]


def draw_sum(dice, names):
    terms = [dice.choice(names + [str(dice.randint(0, 4))]) for place in range(dice.randint(1, 3))]
    text = terms[0]
    for term in terms[1:]:
        text += dice.choice([" + ", " - "]) + term
    return text


def draw_comparison(dice, names):
    return draw_sum(dice, names) + dice.choice([" < ", " = "]) + draw_sum(dice, names)


def draw_part(dice, names, depth):
    part = draw_condition(dice, names, depth)
    return "( " + part + " )" if dice.randint(0, 1) else part


def draw_condition(dice, names, depth=2):
    pick = dice.randint(0, 4) if depth else 0
    if pick == 0:
        return draw_comparison(dice, names)
    if pick == 1:
        return "~ " + draw_part(dice, names, depth - 1)
    sign = dice.choice([" & ", " | "])
    return draw_part(dice, names, depth - 1) + sign + draw_part(dice, names, depth - 1)


def draw_rule(dice, name, rank, thing, names):
    """A rule command that is short enough."""
    while True:
        delay = dice.choice([0, 0, 0, 1, 2, 5])
        condition = draw_condition(dice, names)
        amount = draw_sum(dice, names)
        command = f"rule {name} {rank} after {delay} if {condition} then {thing} is {amount}"
        if len(command) <= 160:
            return command


def draw_rules(dice, names=None):
    """Six rules over the sensors and devices; names tells, for each device, what its rules may name."""
    rules = []
    for name in ["ra", "rb", "rc", "rd", "re", "rf"]:
        thing = dice.choice(THINGS)
        allowed = SENSORS + THINGS + ["time"] if names is None else names[thing]
        rules.append(draw_rule(dice, name, dice.randint(0, 3), thing, allowed))
    return rules


def draw_parts(dice):
    sensors = [f"sensor {name} {dice.randint(0, 4)}" for name in SENSORS]
    return sensors + [f"thing {name} {dice.randint(0, 4)}" for name in THINGS]


def draw_events(dice, size):
    """Commands that people give on a house with these sensors and devices."""
    events = []
    for place in range(size):
        thing = dice.choice(THINGS)
        events.append(dice.choice([
            f"set {dice.choice(SENSORS)} {dice.randint(0, 4)}",
            f"hand {thing} {dice.randint(0, 4)}",
            f"hold {thing} {dice.randint(0, 4)} {dice.randint(0, 3)} {dice.randint(1, 6)}",
            f"free {thing}",
            f"deaf {thing}",
            f"hears {thing}",
            f"tick {dice.randint(1, 4)}",
        ]))
    return events


def draw_house(dice, names=None, size=8):
    return draw_parts(dice) + draw_rules(dice, names) + draw_events(dice, size)
