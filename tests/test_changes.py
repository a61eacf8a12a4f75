"""The commands that change the house, with their errors in order."""

import unittest

from tests.helper import HouseTest, ask, last

FULL = ["sensor sa 1", "sensor sb 2", "sensor sc 3", "sensor sd 4",
        "thing ta 1", "thing tb 2", "thing tc 3", "thing td 4",
        "rule ra 1 after 0 if sa = 9 then ta is 2", "rule rb 1 after 0 if sa = 9 then ta is 2",
        "rule rc 1 after 0 if sa = 9 then ta is 2", "rule rd 1 after 0 if sa = 9 then ta is 2",
        "rule re 1 after 0 if sa = 9 then ta is 2", "rule rf 1 after 0 if sa = 9 then ta is 2"]


class Creating(HouseTest):
    def test_full_house_is_reached(self):
        self.assertEqual(ask(FULL), ["ok"] * 14)

    def test_sensor(self):
        self.check([("sensor lux 7", "ok"), ("sensor wind 999", "ok"), ("state", "2 / lux 7 / wind 999")])

    def test_thing(self):
        self.check([("thing lamp 7", "ok"), ("state", "1 / lamp 7 7 none"), ("tick 1", "ok 1"),
                    ("state", "1 / lamp 7 7 none")])

    def test_no_more_than_four_sensors(self):
        self.check_refused(FULL, "sensor x 1", "no many")
        self.assertEqual(last(FULL[:3] + FULL[4:] + ["sensor x 1"]), "ok")

    def test_no_more_than_four_things(self):
        self.check_refused(FULL, "thing x 1", "no many")
        self.assertEqual(last(FULL[:7] + FULL[8:] + ["thing x 1"]), "ok")

    def test_no_more_than_six_rules(self):
        self.check_refused(FULL, "rule x 1 after 0 if sa = 9 then ta is 2", "no many")
        self.assertEqual(last(FULL + ["drop rc", "rule x 1 after 0 if sa = 9 then ta is 2"]), "ok")

    def test_names_are_shared_by_all_kinds(self):
        before = ["sensor s 1", "thing t 1", "rule r 1 after 0 if s = 1 then t is 2"]
        for name in ["s", "t", "r"]:
            self.check_refused(before, f"sensor {name} 1", "no name")
            self.check_refused(before, f"thing {name} 1", "no name")
            self.check_refused(before, f"rule {name} 1 after 0 if s = 1 then t is 2", "no name")

    def test_no_name_comes_ahead_of_no_many(self):
        for name in ["sa", "td", "rf"]:
            self.check_refused(FULL, f"sensor {name} 1", "no name")
            self.check_refused(FULL, f"thing {name} 1", "no name")
            self.check_refused(FULL, f"rule {name} 1 after 0 if sa = 1 then ta is 2", "no name")

    def test_name_of_a_dropped_rule_is_free_again(self):
        before = ["sensor s 1", "thing t 1", "rule r 1 after 0 if s = 1 then t is 2", "drop r"]
        for command in ["sensor r 1", "thing r 1", "rule r 1 after 0 if s = 1 then t is 2"]:
            self.assertEqual(last(before + [command]), "ok")


class Setting(HouseTest):
    def test_set(self):
        self.check([("sensor a 1", "ok"), ("sensor b 2", "ok"), ("set a 999", "ok"), ("state", "2 / a 999 / b 2")])

    def test_set_wants_a_sensor(self):
        before = ["sensor s 1", "thing t 1", "rule r 1 after 0 if s = 1 then t is 2"]
        for name in ["t", "r", "x"]:
            self.check_refused(before, f"set {name} 5", "no sensor")


class WantingThings(HouseTest):
    def test_no_thing(self):
        before = ["sensor s 1", "thing t 1", "rule r 1 after 0 if s = 1 then t is 2"]
        for name in ["s", "r", "x"]:
            for command in ["deaf N", "hears N", "hand N 5", "hold N 5 1 9", "free N", "was N 0", "why N",
                            "rule a 1 after 0 if s = 1 then N is 2"]:
                self.check_refused(before, command.replace("N", name), "no thing")


class Deafness(HouseTest):
    def test_deaf_thing_keeps_its_value_but_gets_its_target(self):
        self.check([("thing t 1", "ok"), ("deaf t", "ok"), ("rule r 1 after 0 if 1 = 1 then t is 5", "ok"),
                    ("state", "1 / t 1 1 none deaf"), ("tick 1", "ok 1"), ("state", "1 / t 1 5 rule r deaf"),
                    ("hears t", "ok"), ("state", "1 / t 1 5 rule r"), ("tick 1", "ok 2"),
                    ("state", "1 / t 5 5 rule r")])

    def test_twice_is_as_once(self):
        self.check([("thing t 1", "ok"), ("hears t", "ok"), ("deaf t", "ok"), ("deaf t", "ok"),
                    ("state", "1 / t 1 1 none deaf"), ("hears t", "ok"), ("hears t", "ok"),
                    ("state", "1 / t 1 1 none")])

    def test_only_this_thing(self):
        self.check([("thing t 1", "ok"), ("thing u 1", "ok"), ("deaf u", "ok"),
                    ("state", "2 / t 1 1 none / u 1 1 none deaf")])

    def test_deaf_by_hold_and_rule_names(self):
        self.check([("thing t 1", "ok"), ("hold t 4 0 9", "ok 9"), ("deaf t", "ok"), ("tick 1", "ok 1"),
                    ("state", "1 / t 1 4 hold deaf")])


class Hand(HouseTest):
    def test_thing_that_responds(self):
        self.check([("thing t 1", "ok"), ("hand t 5", "ok"), ("state", "1 / t 5 5 hand"), ("tick 9", "ok 9"),
                    ("state", "1 / t 5 5 hand")])

    def test_deaf_thing(self):
        self.check([("thing t 1", "ok"), ("deaf t", "ok"), ("hand t 5", "ok"), ("state", "1 / t 5 1 none deaf"),
                    ("tick 1", "ok 1"), ("state", "1 / t 5 1 none deaf"), ("hears t", "ok"), ("tick 1", "ok 2"),
                    ("state", "1 / t 1 1 none")])

    def test_deaf_thing_keeps_the_origin_of_its_target(self):
        self.check([("thing t 1", "ok"), ("hand t 2", "ok"), ("hold t 3 1 9", "ok 9"), ("tick 1", "ok 1"),
                    ("deaf t", "ok"), ("hand t 5", "ok"), ("state", "1 / t 5 3 hold deaf")])

    def test_rule_takes_over_again(self):
        self.check([("thing t 1", "ok"), ("rule r 0 after 0 if 1 = 1 then t is 7", "ok"), ("hand t 5", "ok"),
                    ("tick 1", "ok 1"), ("state", "1 / t 7 7 rule r")])

    def test_same_value_is_by_hand_too(self):
        self.check([("thing t 1", "ok"), ("hand t 1", "ok"), ("state", "1 / t 1 1 hand")])


class Holds(HouseTest):
    def test_answer_is_the_end(self):
        self.check([("thing t 1", "ok"), ("hold t 5 1 1", "ok 1"), ("tick 7", "ok 7"), ("hold t 5 1 999", "ok 1006")])

    def test_it_has_no_effect_ahead_of_the_next_minute(self):
        self.check([("thing t 1", "ok"), ("hold t 5 1 9", "ok 9"), ("state", "1 / t 1 1 none"), ("tick 1", "ok 1"),
                    ("state", "1 / t 5 5 hold")])

    def test_hold_replaces_the_hold(self):
        self.check([("thing t 1", "ok"), ("hold t 5 9 90", "ok 90"), ("tick 1", "ok 1"), ("hold t 6 0 3", "ok 4"),
                    ("tick 1", "ok 2"), ("why t", "hold 6 0 4"), ("hand t 1", "ok"), ("tick 1", "ok 3"),
                    ("state", "1 / t 6 6 hold"), ("hand t 1", "ok"), ("tick 1", "ok 4"), ("state", "1 / t 1 1 hand")])

    def test_target_stays_behind_the_end(self):
        self.check([("thing t 1", "ok"), ("hold t 5 1 2", "ok 2"), ("tick 1", "ok 1"), ("tick 9", "ok 10"),
                    ("state", "1 / t 5 5 hold")])

    def test_free(self):
        self.check([("thing t 1", "ok"), ("hold t 5 1 9", "ok 9"), ("free t", "ok"), ("tick 1", "ok 1"),
                    ("state", "1 / t 1 1 none"), ("hold t 5 1 9", "ok 10"), ("tick 1", "ok 2"), ("free t", "ok"),
                    ("hand t 2", "ok"), ("tick 1", "ok 3"), ("state", "1 / t 2 2 hand")])

    def test_free_only_this_thing(self):
        self.check([("thing t 1", "ok"), ("thing u 1", "ok"), ("hold t 5 1 9", "ok 9"), ("hold u 6 1 9", "ok 9"),
                    ("free t", "ok"), ("tick 1", "ok 1"), ("state", "2 / t 1 1 none / u 6 6 hold")])

    def test_no_hold(self):
        self.check_refused(["thing t 1"], "free t", "no hold")
        self.check_refused(["thing t 1", "hold t 5 1 9", "free t"], "free t", "no hold")
        self.check_refused(["thing t 1", "thing u 1", "hold u 5 1 9"], "free t", "no hold")

    def test_no_hold_from_the_end_on(self):
        self.assertEqual(last(["thing t 1", "hold t 5 1 3", "tick 2", "free t"]), "ok")
        self.check_refused(["thing t 1", "hold t 5 1 3", "tick 3"], "free t", "no hold")
        self.check_refused(["thing t 1", "hold t 5 1 3", "tick 4"], "free t", "no hold")
        self.assertEqual(ask(["thing t 1", "hold t 5 1 3", "tick 3", "free t", "why t"])[-2:], ["no hold", "hold 5 1 3"])


class Rules(HouseTest):
    BEFORE = ["sensor s 1", "thing t 1", "thing u 1"]

    def test_count_begins_at_zero(self):
        self.check([("thing t 1", "ok"), ("rule r 0 after 0 if 1 = 1 then t is 5", "ok"), ("whynot r", "waits 0"),
                    ("state", "1 / t 1 1 none")])

    def test_no_value_in_each_place(self):
        for command in ["rule a 1 after 0 if x = 1 then t is 2", "rule a 1 after 0 if 1 = x then t is 2",
                        "rule a 1 after 0 if 1 + s - x < 1 then t is 2", "rule a 1 after 0 if s = 1 then t is x",
                        "rule a 1 after 0 if s = 1 then t is 1 + x", "rule a 1 after 0 if a = 1 then t is 1",
                        "rule a 1 after 0 if s = 1 & ~ ( s = 2 | x = 1 ) then t is 1"]:
            self.check_refused(self.BEFORE, command, "no value")

    def test_name_of_a_rule_has_no_value(self):
        before = self.BEFORE + ["rule r 1 after 0 if s = 1 then t is 2"]
        self.check_refused(before, "rule a 1 after 0 if r = 1 then t is 2", "no value")
        self.check_refused(before, "rule a 1 after 0 if s = 1 then t is r", "no value")

    def test_time_and_sensors_and_things_have_values(self):
        self.assertEqual(last(self.BEFORE + ["rule a 1 after 0 if time = s then t is u + t - s + time"]), "ok")

    def test_order_of_errors(self):
        full = ["rule ra 1 after 0 if s = 1 then t is 2", "rule rb 1 after 0 if s = 1 then t is 2",
                "rule rc 1 after 0 if s = 1 then t is 2", "rule rd 1 after 0 if s = 1 then t is 2",
                "rule re 1 after 0 if s = 1 then t is 2", "rule rf 1 after 0 if s = 1 then t is 2"]
        before = self.BEFORE + full
        self.check_refused(before, "rule t 1 after 0 if x = 1 then s is 2", "no name")
        self.check_refused(before, "rule t 1 after 0 if x = 1 then t is 2", "no name")
        self.check_refused(before, "rule a 1 after 0 if x = 1 then s is 2", "no thing")
        self.check_refused(before, "rule a 1 after 0 if s = 1 then s is 2", "no thing")
        self.check_refused(before, "rule a 1 after 0 if x = 1 then t is 2", "no value")
        self.check_refused(before, "rule a 1 after 0 if s = 1 then t is 2", "no many")

    def test_drop(self):
        self.check([("thing t 1", "ok"), ("rule r 0 after 0 if 1 = 1 then t is t + 1", "ok"), ("tick 1", "ok 1"),
                    ("drop r", "ok"), ("tick 5", "ok 6"), ("state", "1 / t 2 2 rule r"), ("list", "0")])

    def test_no_rule(self):
        before = self.BEFORE + ["rule r 1 after 0 if s = 1 then t is 2"]
        for name in ["s", "t", "x"]:
            self.check_refused(before, f"drop {name}", "no rule")
            self.check_refused(before, f"whynot {name}", "no rule")
        self.check_refused(before + ["drop r"], "drop r", "no rule")

    def test_new_rule_of_an_old_name_begins_anew_and_comes_last(self):
        self.check([("thing t 1", "ok"), ("rule a 1 after 0 if 1 = 1 then t is 2", "ok"),
                    ("rule b 1 after 0 if 1 = 1 then t is 3", "ok"), ("tick 1", "ok 1"),
                    ("state", "1 / t 2 2 rule a"), ("drop a", "ok"), ("rule a 1 after 0 if 1 = 1 then t is 2", "ok"),
                    ("whynot a", "waits 0"), ("tick 1", "ok 2"), ("state", "1 / t 3 3 rule b"),
                    ("list", "2 / b 1 after 0 if 1 = 1 then t is 3 / a 1 after 0 if 1 = 1 then t is 2")])


class Minutes(HouseTest):
    def test_clock(self):
        self.check([("tick 1", "ok 1"), ("tick 500", "ok 501"), ("tick 2", "ok 503")])

    def test_delays(self):
        for delay in [0, 1, 2, 20]:
            before = ["thing t 1", f"rule r 0 after {delay} if 1 = 1 then t is 5"]
            self.assertEqual(last(before + [f"tick {delay + 1}", "state"]), "1\nt 5 5 rule r")
            if delay:
                self.assertEqual(last(before + [f"tick {delay}", "state"]), "1\nt 1 1 none")

    def test_count_ends_at_the_delay_plus_one_and_falls_to_zero(self):
        self.check([("sensor s 1", "ok"), ("thing t 1", "ok"), ("rule r 0 after 2 if s = 1 then t is 5", "ok"),
                    ("tick 3", "ok 3"), ("why t", "2 / rule r 0 3 / s = 1 yes"), ("tick 9", "ok 12"),
                    ("why t", "2 / rule r 0 3 / s = 1 yes"), ("set s 2", "ok"), ("tick 1", "ok 13"),
                    ("why t", "2 / rule r 0 0 / s = 1 no"), ("set s 1", "ok"), ("tick 2", "ok 15"),
                    ("whynot r", "waits 2"), ("set s 2", "ok"), ("tick 1", "ok 16"), ("set s 1", "ok"),
                    ("tick 1", "ok 17"), ("whynot r", "waits 1")])

    def test_value_of_a_rule_is_kept_within_its_ends(self):
        for amount, value in [("1 - 2", 0), ("0 - 99999", 0), ("0", 0), ("999", 999), ("1000", 999), ("99999", 999),
                              ("500 + 499", 999), ("500 + 500", 999), ("3 - 3", 0), ("3 - 2", 1)]:
            got = last(["thing t 7", f"rule r 0 after 0 if 1 = 1 then t is {amount}", "tick 1", "state"])
            self.assertEqual(got, f"1\nt {value} {value} rule r", amount)

    def test_time_is_the_clock_modulo_1440(self):
        before = ["thing t 7", "rule r 0 after 0 if time < 1 then t is 1", "rule s 1 after 0 if time = 1439 then t is 2"]
        clock = before + ["tick 500", "tick 500"]
        self.assertEqual(last(before + ["state"]), "1\nt 7 7 none")
        self.assertEqual(last(clock + ["tick 438", "state"]), "1\nt 7 7 none")
        self.assertEqual(last(clock + ["tick 439", "state"]), "1\nt 2 2 rule s")
        self.assertEqual(last(clock + ["tick 440", "state"]), "1\nt 1 1 rule r")
        self.assertEqual(last(clock + ["tick 440", "tick 500", "tick 500", "tick 439", "hand t 7", "tick 1", "state"]),
                         "1\nt 1 1 rule r")

    def test_rules_see_the_clock_behind_its_advance(self):
        self.assertEqual(last(["thing t 7", "rule r 0 after 0 if time = 3 then t is time + 1", "tick 3", "state"]),
                         "1\nt 4 4 rule r")

    def test_target_and_origin_stay_without_a_candidate(self):
        self.check([("sensor s 1", "ok"), ("thing t 1", "ok"), ("rule r 0 after 0 if s = 1 then t is 5", "ok"),
                    ("tick 1", "ok 1"), ("set s 0", "ok"), ("tick 5", "ok 6"), ("state", "2 / s 0 / t 5 5 rule r")])


if __name__ == "__main__":
    unittest.main()
