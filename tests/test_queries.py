"""The queries, with their errors."""

import random
import unittest

from tests.helper import HouseTest, THINGS, ask, draw_house, entries, last


class State(HouseTest):
    def test_empty(self):
        self.check([("state", "0")])

    def test_sensors_come_ahead_of_things_in_the_order_of_creation(self):
        self.check([("thing z 1", "ok"), ("sensor y 2", "ok"), ("thing a 3", "ok"), ("sensor b 4", "ok"),
                    ("state", "4 / y 2 / b 4 / z 1 1 none / a 3 3 none")])

    def test_origins(self):
        self.check([("thing a 1", "ok"), ("thing b 1", "ok"), ("thing c 1", "ok"), ("thing d 1", "ok"),
                    ("rule r 1 after 0 if 1 = 1 then b is 2", "ok"), ("hold c 3 1 9", "ok 9"), ("tick 1", "ok 1"),
                    ("hand d 4", "ok"), ("deaf b", "ok"), ("deaf d", "ok"),
                    ("state", "4 / a 1 1 none / b 2 2 rule r deaf / c 3 3 hold / d 4 4 hand deaf")])

    def test_origin_of_a_dropped_rule_keeps_its_name(self):
        self.check([("thing b 1", "ok"), ("rule r 1 after 0 if 1 = 1 then b is 2", "ok"), ("tick 1", "ok 1"),
                    ("drop r", "ok"), ("state", "1 / b 2 2 rule r")])


class Was(HouseTest):
    def test_each_minute(self):
        self.check([("thing t 5", "ok"), ("rule r 1 after 0 if 1 = 1 then t is t + time", "ok"), ("tick 4", "ok 4"),
                    ("was t 0", "5"), ("was t 1", "6"), ("was t 2", "8"), ("was t 3", "11"), ("was t 4", "15")])

    def test_no_thing_comes_ahead_of_no_time(self):
        self.check_refused(["sensor s 1", "thing t 1"], "was s 9", "no thing")
        self.check_refused(["sensor s 1", "thing t 1"], "was x 0", "no thing")

    def test_no_time(self):
        self.check([("thing t 5", "ok"), ("was t 1", "no time"), ("tick 3", "ok 3"), ("was t 3", "5"),
                    ("was t 4", "no time"), ("was t 99999", "no time")])

    def test_no_time_ahead_of_the_creation(self):
        self.check([("tick 3", "ok 3"), ("thing t 5", "ok"), ("was t 2", "no time"), ("was t 0", "no time"),
                    ("was t 3", "5"), ("tick 2", "ok 5"), ("hand t 6", "ok"), ("was t 2", "no time"),
                    ("was t 3", "5"), ("was t 4", "5"), ("was t 5", "6"), ("was t 6", "no time")])

    def test_last_value_within_a_minute_counts(self):
        self.check([("thing t 5", "ok"), ("hand t 6", "ok"), ("was t 0", "6"), ("hand t 7", "ok"), ("was t 0", "7"),
                    ("tick 1", "ok 1"), ("hand t 8", "ok"), ("was t 0", "7"), ("was t 1", "8")])

    def test_values_of_a_deaf_thing(self):
        self.check([("thing t 5", "ok"), ("deaf t", "ok"), ("hand t 6", "ok"), ("tick 1", "ok 1"), ("hears t", "ok"),
                    ("tick 1", "ok 2"), ("was t 0", "6"), ("was t 1", "6"), ("was t 2", "5")])

    def test_now_is_the_value_in_state(self):
        for seed in range(40):
            house = draw_house(random.Random(seed))
            got = ask(house + ["state", "tick 1"])
            clock = int(got[-1][3:]) - 1
            for entry in entries(got[-2])[2:]:
                words = entry.split(" ")
                self.assertEqual(last(house + [f"was {words[0]} {clock}"]), words[1])
                self.assertEqual(last(house + ["tick 1", f"was {words[0]} {clock}"]), words[1])


class Why(HouseTest):
    def test_none_and_hand(self):
        self.check([("thing t 5", "ok"), ("why t", "none"), ("hand t 5", "ok"), ("why t", "hand")])

    def test_hold_whether_it_has_ended_or_not(self):
        self.check([("thing t 5", "ok"), ("hold t 6 7 3", "ok 3"), ("why t", "none"), ("tick 1", "ok 1"),
                    ("why t", "hold 6 7 3"), ("tick 1", "ok 2"), ("why t", "hold 6 7 3"), ("tick 5", "ok 7"),
                    ("why t", "hold 6 7 3")])

    def test_hold_that_has_been_removed(self):
        self.check([("thing t 5", "ok"), ("hold t 6 7 3", "ok 3"), ("tick 1", "ok 1"), ("free t", "ok"),
                    ("why t", "hold"), ("tick 1", "ok 2"), ("why t", "hold"), ("hold t 1 2 3", "ok 5"),
                    ("why t", "hold 1 2 5")])

    def test_hold_of_the_thing_now(self):
        self.check([("thing t 5", "ok"), ("hold t 6 7 3", "ok 3"), ("tick 1", "ok 1"), ("hold t 8 9 5", "ok 6"),
                    ("why t", "hold 8 9 6")])

    def test_rule(self):
        self.check([("sensor s 1", "ok"), ("thing t 5", "ok"),
                    ("rule r 7 after 1 if ( s = 2 | ~ t + 1 < s ) & ( 9 - 1 = t ) | s = 1 then t is 6", "ok"),
                    ("tick 2", "ok 2"), ("why t", "5 / rule r 7 2 / s = 2 no / t + 1 < s no / 9 - 1 = t no / s = 1 yes"),
                    ("set s 8", "ok"), ("why t", "5 / rule r 7 2 / s = 2 no / t + 1 < s yes / 9 - 1 = t no / s = 1 no"),
                    ("hand t 8", "ok"), ("why t", "hand")])

    def test_comparisons_are_as_they_are_now(self):
        self.check([("thing t 5", "ok"), ("rule r 7 after 0 if t = 5 then t is 6", "ok"), ("tick 1", "ok 1"),
                    ("why t", "2 / rule r 7 1 / t = 5 no")])

    def test_time_is_as_it_is_now(self):
        self.check([("thing t 5", "ok"), ("rule r 7 after 0 if time = 2 | time = 3 then t is 6", "ok"),
                    ("tick 2", "ok 2"), ("why t", "3 / rule r 7 1 / time = 2 yes / time = 3 no")])

    def test_rule_that_is_gone(self):
        self.check([("thing t 5", "ok"), ("rule r 7 after 0 if t = 5 then t is 6", "ok"), ("tick 1", "ok 1"),
                    ("drop r", "ok"), ("why t", "rule r gone"), ("sensor r 1", "ok"), ("why t", "rule r gone")])

    def test_new_rule_of_the_same_name(self):
        self.check([("thing t 5", "ok"), ("thing u 5", "ok"), ("rule r 7 after 0 if t = 5 then t is 6", "ok"),
                    ("tick 1", "ok 1"), ("drop r", "ok"), ("rule r 2 after 9 if u = 5 then u is 1", "ok"),
                    ("why t", "2 / rule r 2 0 / u = 5 yes")])


class WhyNot(HouseTest):
    def test_waits(self):
        self.check([("thing t 5", "ok"), ("rule r 7 after 2 if t = 5 then t is 6", "ok"), ("whynot r", "waits 0"),
                    ("tick 1", "ok 1"), ("whynot r", "waits 1"), ("tick 1", "ok 2"), ("whynot r", "waits 2"),
                    ("tick 1", "ok 3"), ("whynot r", "speaks")])

    def test_waits_as_the_condition_is_now(self):
        self.check([("sensor s 1", "ok"), ("thing t 5", "ok"), ("rule r 7 after 0 if s = 2 then t is 6", "ok"),
                    ("tick 1", "ok 1"), ("whynot r", "2 / silent / s = 2 no"), ("set s 2", "ok"),
                    ("whynot r", "waits 0")])

    def test_silent_as_the_condition_is_now(self):
        self.check([("sensor s 1", "ok"), ("thing t 5", "ok"),
                    ("rule r 7 after 5 if s = 1 & ~ ( t = 6 | t < 2 ) then t is 6", "ok"), ("tick 3", "ok 3"),
                    ("whynot r", "waits 3"), ("set s 2", "ok"),
                    ("whynot r", "4 / silent / s = 1 no / t = 6 no / t < 2 no")])

    def test_speaks_though_the_condition_does_not_hold_now(self):
        self.check([("sensor s 1", "ok"), ("thing t 5", "ok"), ("rule r 7 after 0 if s = 1 then t is 6", "ok"),
                    ("tick 1", "ok 1"), ("set s 2", "ok"), ("whynot r", "speaks"), ("tick 1", "ok 2"),
                    ("whynot r", "2 / silent / s = 1 no")])

    def test_over(self):
        self.check([("sensor s 1", "ok"), ("thing t 5", "ok"), ("thing u 5", "ok"),
                    ("rule z 9 after 0 if s = 1 then t is 6", "ok"), ("rule r 4 after 0 if s = 1 then t is 6", "ok"),
                    ("rule same 4 after 0 if s = 1 then t is 6", "ok"), ("rule b 5 after 0 if s = 1 then t is 6", "ok"),
                    ("rule low 3 after 0 if s = 1 then t is 6", "ok"), ("rule far 9 after 0 if s = 1 then u is 6", "ok"),
                    ("tick 1", "ok 1"), ("whynot r", "3 / over / z 9 / b 5"), ("whynot same", "3 / over / z 9 / b 5"),
                    ("whynot low", "5 / over / z 9 / r 4 / same 4 / b 5"), ("whynot b", "2 / over / z 9"),
                    ("whynot z", "speaks"), ("whynot far", "speaks")])

    def test_rule_of_higher_rank_that_does_not_speak(self):
        self.check([("thing t 5", "ok"), ("rule r 4 after 0 if 1 = 1 then t is 6", "ok"),
                    ("rule z 9 after 2 if 1 = 1 then t is 6", "ok"), ("tick 2", "ok 2"), ("whynot r", "speaks"),
                    ("tick 1", "ok 3"), ("whynot r", "2 / over / z 9")])

    def test_hold_is_not_told(self):
        self.check([("thing t 5", "ok"), ("rule r 4 after 0 if 1 = 1 then t is 6", "ok"), ("hold t 1 9 9", "ok 9"),
                    ("tick 1", "ok 1"), ("state", "1 / t 1 1 hold"), ("whynot r", "speaks")])


class Rings(HouseTest):
    THINGS = ["sensor s 1", "thing a 1", "thing b 1", "thing c 1", "thing d 1"]

    def rings(self, rules):
        commands = [f"rule r{name} 1 after 0 if {rest}" for name, rest in zip("abcdef", rules)]
        got = ask(self.THINGS + commands + ["rings"])
        self.assertEqual(got[:-1], ["ok"] * len(got[:-1]))
        return entries(got[-1])

    def test_none(self):
        self.assertEqual(self.rings([]), [])
        self.assertEqual(self.rings(["s = 1 then a is s"]), [])
        self.assertEqual(self.rings(["a = 1 then b is a", "b = 1 then c is a", "c + a = 1 then d is b"]), [])

    def test_direct(self):
        self.assertEqual(self.rings(["a = 1 then a is 1"]), ["a"])
        self.assertEqual(self.rings(["1 < 2 - a then a is 1"]), ["a"])
        self.assertEqual(self.rings(["s = 1 then a is 1 + a"]), ["a"])
        self.assertEqual(self.rings(["s = 1 & ~ ( s = 2 | s = a ) then a is 1"]), ["a"])

    def test_indirect(self):
        self.assertEqual(self.rings(["a = 1 then b is 1", "s = 1 then a is b"]), ["a", "b"])
        self.assertEqual(self.rings(["a = 1 then d is 1", "d = 1 then c is 1", "s = 1 then b is c", "s = 1 then a is b"]),
                         ["a", "b", "c", "d"])

    def test_thing_that_only_depends_on_a_circular_one(self):
        self.assertEqual(self.rings(["a = 1 then a is 1", "a = 1 then b is 1"]), ["a"])
        self.assertEqual(self.rings(["c = 1 then b is 1", "b = 1 then c is 1", "b = 1 then a is c", "d = 1 then c is 1"]),
                         ["b", "c"])

    def test_order_of_creation(self):
        self.assertEqual(self.rings(["d = 1 then d is 1", "b = 1 then b is 1", "c = 1 then c is 1"]), ["b", "c", "d"])

    def test_dropped_rule_does_not_count(self):
        self.check([("thing a 1", "ok"), ("rule r 1 after 0 if a = 1 then a is 1", "ok"), ("rings", "1 / a"),
                    ("drop r", "ok"), ("rings", "0")])


class Try(HouseTest):
    def test_sensor_from_now_on(self):
        self.check([("sensor s 1", "ok"), ("thing t 5", "ok"), ("thing u 5", "ok"),
                    ("rule r 1 after 0 if s = 2 then t is t + 1", "ok"), ("try s 2 1", "2 / t 6 / u 5"),
                    ("try s 2 100", "2 / t 105 / u 5"), ("try s 1 100", "2 / t 5 / u 5"),
                    ("state", "3 / s 1 / t 5 5 none / u 5 5 none")])

    def test_without_things(self):
        self.check([("sensor s 1", "ok"), ("try s 1 1", "0")])

    def test_clock_goes_on_and_holds_end(self):
        self.check([("sensor s 1", "ok"), ("thing t 5", "ok"), ("rule r 1 after 0 if s = 2 then t is time", "ok"),
                    ("hold t 9 5 4", "ok 4"), ("try s 2 3", "1 / t 9"), ("try s 2 4", "1 / t 4"),
                    ("try s 2 5", "1 / t 5")])

    def test_deaf_things_stay(self):
        self.check([("sensor s 1", "ok"), ("thing t 5", "ok"), ("rule r 1 after 0 if s = 2 then t is 7", "ok"),
                    ("deaf t", "ok"), ("try s 2 3", "1 / t 5")])

    def test_counts_go_on(self):
        self.check([("sensor s 1", "ok"), ("thing t 5", "ok"), ("rule r 1 after 3 if s < 3 then t is 7", "ok"),
                    ("tick 2", "ok 2"), ("try s 2 1", "1 / t 5"), ("try s 2 2", "1 / t 7"), ("try s 3 2", "1 / t 5")])

    def test_no_sensor(self):
        before = ["sensor s 1", "thing t 1", "rule r 1 after 0 if s = 1 then t is 2"]
        for name in ["t", "r", "x"]:
            self.check_refused(before, f"try {name} 5 9", "no sensor")

    def test_names_of_the_drawn_houses(self):
        got = last(draw_house(random.Random(1)) + ["try lux 1 1"])
        self.assertEqual([entry.split(" ")[0] for entry in entries(got)], THINGS)


if __name__ == "__main__":
    unittest.main()
