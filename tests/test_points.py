"""The points 1 to 7 that the document requires of the whole program."""

import itertools
import random
import unittest

from tests.helper import (HouseTest, SENSORS, THINGS, ask, draw_events, draw_house, draw_parts, draw_rules, entries,
                          last)

QUERIES = (["state", "list", "rings", "rest", "try lux 3 50", "try wind 0 1"]
           + [f"why {name}" for name in THINGS] + [f"was {name} 0" for name in THINGS]
           + [f"whynot r{letter}" for letter in "abcdef"])


def things(answer):
    """From state: the words of each device, by its name."""
    return {entry.split(" ")[0]: entry.split(" ")[1:] for entry in entries(answer)[len(SENSORS):]}


def meaning(text, readings):
    text = text.replace("=", "==").replace("&", "and").replace("|", "or").replace("~", "not")
    return eval(text, dict(readings))


class Model:
    """A house by its commands, worked out anew, to hold the program against."""

    def __init__(self):
        self.clock = 0
        self.sensors = {}
        self.things = {}
        self.rules = []

    def act(self, command):
        words = command.split(" ")
        if words[0] == "tick":
            for minute in range(int(words[1])):
                self.minute()
        elif words[0] == "rule":
            condition, rest = command.split(" if ")[1].split(" then ")
            thing, amount = rest.split(" is ")
            self.rules.append({"name": words[1], "rank": int(words[2]), "delay": int(words[4]), "held": 0,
                               "condition": condition, "thing": thing, "amount": amount})
        elif words[0] in ["sensor", "set"]:
            self.sensors[words[1]] = int(words[2])
        elif words[0] == "thing":
            self.things[words[1]] = {"value": int(words[2]), "target": int(words[2]), "origin": "none", "deaf": False,
                                     "hold": None}
        else:
            self.touch(self.things[words[1]], words)

    def touch(self, thing, words):
        if words[0] in ["deaf", "hears"]:
            thing["deaf"] = words[0] == "deaf"
        elif words[0] == "hand":
            thing["value"] = int(words[2])
            if not thing["deaf"]:
                thing.update(target=int(words[2]), origin="hand")
        elif words[0] == "hold":
            thing["hold"] = (int(words[2]), int(words[3]), self.clock + int(words[4]))
        elif thing["hold"] and thing["hold"][2] > self.clock:
            thing["hold"] = None

    def minute(self):
        self.clock += 1
        readings = dict(self.sensors, time=self.clock % 1440)
        readings.update({name: thing["value"] for name, thing in self.things.items()})
        for rule in self.rules:
            rule["held"] = rule["held"] + 1 if meaning(rule["condition"], readings) else 0
        for name, thing in self.things.items():
            found = []
            if thing["hold"] and thing["hold"][2] > self.clock:
                found.append((thing["hold"][1], thing["hold"][0], "hold"))
            for rule in self.rules:
                if rule["thing"] == name and rule["held"] > rule["delay"]:
                    value = sorted([0, meaning(rule["amount"], readings), 999])[1]
                    found.append((rule["rank"], value, "rule " + rule["name"]))
            if found:
                best = max(found, key=lambda candidate: candidate[0])
                thing.update(target=best[1], origin=best[2])
        for thing in self.things.values():
            if not thing["deaf"]:
                thing["value"] = thing["target"]

    def state(self):
        rows = [f"{name} {value}" for name, value in self.sensors.items()]
        for name, thing in self.things.items():
            deaf = " deaf" if thing["deaf"] else ""
            rows.append(f"{name} {thing['value']} {thing['target']} {thing['origin']}{deaf}")
        return "\n".join([str(len(rows))] + rows)


class AgainstTheModel(HouseTest):
    def test_states_of_drawn_houses(self):
        for seed in range(300):
            commands = draw_house(random.Random(seed), size=40)
            model = Model()
            wanted = []
            for command in commands:
                model.act(command)
                wanted.append(model.state())
            for place in [15, 20, 30, len(commands)]:
                self.assertEqual(last(commands[:place] + ["state"]), wanted[place - 1], (seed, place))


class Point1(HouseTest):
    def test_highest_rank_among_rules_and_hold(self):
        for ranks in itertools.permutations([0, 4, 9]):
            rows = [f"rule ra {ranks[0]} after 0 if 1 = 1 then t is 1",
                    f"rule rb {ranks[1]} after 0 if 1 = 1 then t is 2", f"hold t 3 {ranks[2]} 5"]
            best = ranks.index(9)
            origin = ["rule ra", "rule rb", "hold"][best]
            wanted = f"1\nt {best + 1} {best + 1} {origin}"
            for order in itertools.permutations(rows):
                self.assertEqual(last(["thing t 7"] + list(order) + ["tick 1", "state"]), wanted)

    def test_equal_ranks(self):
        rules = ["rule ra 4 after 0 if 1 = 1 then t is 1", "rule rb 4 after 0 if 1 = 1 then t is 2"]
        self.assertEqual(last(["thing t 7"] + rules + ["tick 1", "state"]), "1\nt 1 1 rule ra")
        self.assertEqual(last(["thing t 7"] + rules[::-1] + ["tick 1", "state"]), "1\nt 2 2 rule rb")
        self.assertEqual(last(["thing t 7"] + rules + ["hold t 3 4 5", "tick 1", "state"]), "1\nt 3 3 hold")
        self.assertEqual(last(["thing t 7", "hold t 3 4 5"] + rules + ["tick 1", "state"]), "1\nt 3 3 hold")

    def test_rank_zero_is_a_rank(self):
        self.assertEqual(last(["thing t 7", "hold t 3 0 5", "tick 1", "state"]), "1\nt 3 3 hold")
        self.assertEqual(last(["thing t 7", "rule r 0 after 0 if 1 = 1 then t is 1", "tick 1", "state"]),
                         "1\nt 1 1 rule r")

    def test_rule_that_does_not_speak_is_no_candidate(self):
        rules = ["rule ra 9 after 1 if 1 = 1 then t is 1", "rule rb 0 after 0 if 1 = 1 then t is 2",
                 "rule rc 9 after 0 if 1 = 2 then t is 3"]
        self.assertEqual(last(["thing t 7"] + rules + ["tick 1", "state"]), "1\nt 2 2 rule rb")
        self.assertEqual(last(["thing t 7"] + rules + ["tick 2", "state"]), "1\nt 1 1 rule ra")

    def test_rule_for_another_thing_is_no_candidate(self):
        self.assertEqual(last(["thing t 7", "thing u 7", "rule r 9 after 0 if 1 = 1 then u is 1", "tick 1", "state"]),
                         "2\nt 7 7 none\nu 1 1 rule r")


class Point2(HouseTest):
    BEFORE = ["thing t 7", "rule r 3 after 0 if 1 = 1 then t is 1"]

    def test_exactly_until_its_end(self):
        for length in [1, 2, 5, 60]:
            before = self.BEFORE + ["tick 3", f"hold t 5 3 {length}", f"tick {length}", "tick 1"]
            for minute in range(1, length + 2):
                wanted = "5" if minute < length else "1"
                self.assertEqual(last(before + [f"was t {3 + minute}"]), wanted, (length, minute))

    def test_hold_of_one_minute_is_over_when_the_next_one_comes(self):
        self.assertEqual(last(["thing t 7", "hold t 5 9 1", "tick 1", "state"]), "1\nt 7 7 none")
        self.assertEqual(last(["thing t 7", "hold t 5 9 2", "tick 1", "state"]), "1\nt 5 5 hold")

    def test_rule_with_a_higher_rank(self):
        self.assertEqual(last(self.BEFORE + ["hold t 5 2 9", "tick 1", "state"]), "1\nt 1 1 rule r")
        self.assertEqual(last(self.BEFORE + ["hold t 5 3 9", "tick 1", "state"]), "1\nt 5 5 hold")

    def test_hold_has_effect_again_when_the_rule_is_silent(self):
        self.check([("sensor s 1", "ok"), ("thing t 7", "ok"), ("rule r 3 after 0 if s = 1 then t is 1", "ok"),
                    ("hold t 5 2 9", "ok 9"), ("tick 1", "ok 1"), ("state", "2 / s 1 / t 1 1 rule r"),
                    ("set s 2", "ok"), ("tick 1", "ok 2"), ("state", "2 / s 2 / t 5 5 hold")])


class Point3(HouseTest):
    def test_swap(self):
        rules = ["rule ra 1 after 0 if 1 = 1 then a is b", "rule rb 1 after 0 if 1 = 1 then b is a"]
        for order in itertools.permutations(rules):
            self.assertEqual(last(["thing a 1", "thing b 2"] + list(order) + ["tick 1", "state"]),
                             "2\na 2 2 rule ra\nb 1 1 rule rb")

    def test_conditions_see_the_values_ahead_of_the_minute(self):
        rules = ["rule ra 1 after 0 if b = 2 then a is 5", "rule rb 1 after 0 if a = 1 then b is 6"]
        for order in itertools.permutations(rules):
            self.assertEqual(last(["thing a 1", "thing b 2"] + list(order) + ["tick 1", "state"]),
                             "2\na 5 5 rule ra\nb 6 6 rule rb")

    def test_sums_see_values_and_not_targets(self):
        self.assertEqual(last(["thing a 1", "thing b 2", "deaf a", "rule ra 1 after 0 if 1 = 1 then a is 9",
                               "rule rb 1 after 0 if 1 = 1 then b is a", "tick 3", "state"]),
                         "2\na 1 9 rule ra deaf\nb 1 1 rule rb")

    def test_order_of_rules_with_different_ranks(self):
        for seed in range(60):
            dice = random.Random(seed)
            parts = draw_parts(dice)
            rules = []
            for rank, rule in enumerate(draw_rules(dice)):
                words = rule.split(" ")
                rules.append(" ".join(words[:2] + [str(rank)] + words[3:]))
            events = draw_events(dice, 10)
            wanted = last(parts + rules + events + ["state"])
            for turn in range(5):
                dice.shuffle(rules)
                self.assertEqual(last(parts + rules + events + ["state"]), wanted, seed)


class Point4(HouseTest):
    # Rules without time: then the clock may as well go on, and minutes can be had by tick.
    NAMES = {thing: SENSORS + THINGS for thing in THINGS}

    VIEWS = ["state"] + [f"why {name}" for name in THINGS] + [f"whynot r{letter}" for letter in "abcdef"]

    def snapshots(self, house, size):
        shots = [ask(house + self.VIEWS)[len(house):]]
        for place in range(1, size):
            shots.append(ask(house + [f"tick {place}"] + self.VIEWS)[len(house) + 1:])
        return shots

    def check_rest(self, shots, start):
        for shot in shots[start:]:
            self.assertEqual(shot, shots[start])

    def check_round(self, shots, start, period):
        self.assertGreater(period, 1)
        for place in range(start, len(shots) - period):
            self.assertEqual(shots[place], shots[place + period])
        self.assertNotEqual(shots[start], shots[start + 1])

    def test_what_is_told_comes_true(self):
        told = {"rest": 0, "round": 0}
        for seed in range(200):
            dice = random.Random(seed)
            house = [command for command in draw_house(dice, self.NAMES) if command[:4] not in ["hold", "free"]]
            words = last(house + ["rest"]).split(" ")
            if words[0] != "more":
                told[words[0]] += 1
                ends = [int(word) for word in words[1:]]
                shots = self.snapshots(house, sum(ends) + 6)
                self.check_rest(shots, ends[0]) if words[0] == "rest" else self.check_round(shots, ends[0], ends[1])
        self.assertGreater(min(told.values()), 10, told)

    def test_state_stays_behind_the_rest(self):
        house = ["thing a 0", "thing b 0", "rule ra 1 after 3 if 1 = 1 then a is 1", "rule rb 1 after 2 if a = 1 then b is 5"]
        self.assertEqual(last(house + ["rest"]), "rest 7")
        self.assertEqual(last(house + ["tick 6", "state"]), "2\na 1 1 rule ra\nb 0 0 none")
        self.assertEqual(last(house + ["tick 7", "rest"]), "rest 0")
        self.assertEqual(last(house + ["tick 7", "state"]), last(house + ["tick 500", "state"]))


class Point5(HouseTest):
    NAMES = {thing: SENSORS + THINGS[:place] + ["time"] for place, thing in enumerate(THINGS)}

    def test_drawn_houses_without_circular_things(self):
        for seed in range(300):
            house = draw_house(random.Random(seed), self.NAMES)
            got = ask(house + ["rings", "rest"])
            self.assertEqual(got[-2], "0", seed)
            self.assertEqual(got[-1].split(" ")[0], "rest", seed)

    def test_longest_way_to_rest(self):
        house = ["sensor s 1", "thing a 0", "thing b 0", "thing c 0", "thing d 0",
                 "rule ra 1 after 20 if s = 1 then a is 1", "rule rb 1 after 20 if a = 1 then b is 1",
                 "rule rc 1 after 20 if b = 1 then c is 1", "rule rd 1 after 20 if c = 1 then d is 1"]
        self.assertEqual(ask(house + ["rings", "rest"])[-2:], ["0", "rest 84"])


class Point6(HouseTest):
    def test_try_reports_what_would_happen(self):
        for seed in range(200):
            dice = random.Random(seed)
            house = draw_house(dice)
            sensor, value, ahead = dice.choice(SENSORS), dice.randint(0, 4), dice.choice([1, 2, 3, 7, 100])
            told = last(house + [f"try {sensor} {value} {ahead}"])
            came = things(last(house + [f"set {sensor} {value}", f"tick {ahead}", "state"]))
            self.assertEqual(entries(told), [f"{name} {words[0]}" for name, words in came.items()], seed)

    def test_try_changes_nothing(self):
        for seed in range(60):
            house = draw_house(random.Random(seed))
            plain = ask(house + QUERIES + ["tick 3"] + QUERIES[:1])
            tried = ask(house + ["try lux 0 100", "try wind 4 1"] + QUERIES + ["tick 3"] + QUERIES[:1])
            self.assertEqual(tried[len(house) + 2:], plain[len(house):], seed)

    def test_history_never_changes(self):
        later = ["set lux 1", "hand lamp 9", "hold lamp 8 9 9", "tick 2", "deaf lamp", "hand lamp 3", "try lux 4 9",
                 "rest", "free lamp", "drop ra", "hears lamp", "tick 9"]
        for seed in range(60):
            house = draw_house(random.Random(seed)) + ["tick 5"]
            clock = int(ask(house)[-1][3:])
            asked = [f"was lamp {minute}" for minute in range(clock)][-20:]
            first = ask(house + asked)[len(house):]
            again = ask(house + later + asked)[len(house) + len(later):]
            self.assertEqual(first, again, seed)

    def test_history_is_what_state_has_shown(self):
        for seed in range(40):
            house = draw_house(random.Random(seed))
            clock = int(last(house + ["tick 1"])[3:])
            got = ask(house + ["tick 1", "state"] + ["tick 1", "state"] * 4)[len(house) + 1::2]
            for name in THINGS:
                rows = [things(answer)[name][0] for answer in got]
                asked = [f"was {name} {clock + place}" for place in range(5)]
                self.assertEqual(ask(house + ["tick 5"] + asked)[len(house) + 1:], rows, seed)


class Point7(HouseTest):
    VIEWS = ["state", "list", "rest"] + [f"whynot r{letter}" for letter in "abcdef"]

    def test_minutes_in_parts_or_at_once(self):
        for seed in range(100):
            dice = random.Random(seed)
            house = draw_house(dice)
            parts = [dice.randint(1, 9) for part in range(dice.randint(2, 5))]
            start = int(last(house + ["tick 1"])[3:]) - 1
            past = [f"was {name} {start + dice.randint(0, sum(parts))}" for name in THINGS]
            views = self.VIEWS + past
            once = ask(house + [f"tick {sum(parts)}"] + views)
            often = ask(house + [f"tick {part}" for part in parts] + views)
            self.assertEqual(often[-len(views):], once[-len(views):], seed)
            self.assertEqual(often[-len(views) - 1], once[-len(views) - 1], seed)

    def test_queries_change_nothing(self):
        for seed in range(100):
            house = draw_house(random.Random(seed))
            for query in QUERIES:
                self.assertEqual(ask(house + [query] + self.VIEWS + ["tick 2", "state"])[len(house) + 1:],
                                 ask(house + self.VIEWS + ["tick 2", "state"])[len(house):], (seed, query))

    def test_refused_commands_change_nothing(self):
        refused = ["sensor lux 9", "thing lamp 9", "set lamp 9", "set x 9", "deaf lux", "hears lux", "hand lux 9",
                   "hold lux 9 9 9", "free lux", "rule lux 1 after 0 if 1 = 1 then lamp is 1",
                   "rule x 1 after 0 if 1 = 1 then lux is 1", "rule x 1 after 0 if x = 1 then lamp is 1",
                   "rule x 9 after 0 if 1 = 1 then lamp is 1", "drop lamp", "tick 0", "tick 501", "was x 1", "why x",
                   "whynot x", "try lamp 1 1", "thing x 1", "tick 1 ", "hand lamp 1000", "hold lamp 9 9 0", [31]]
        for seed in range(20):
            house = draw_house(random.Random(seed))
            for command in refused:
                got = ask(house + [command] + self.VIEWS + ["tick 2", "state"])[len(house):]
                self.assertTrue(got[0] == -1 or got[0].startswith("no "), (seed, command))
                self.assertEqual(got[1:], ask(house + self.VIEWS + ["tick 2", "state"])[len(house):], (seed, command))


if __name__ == "__main__":
    unittest.main()
