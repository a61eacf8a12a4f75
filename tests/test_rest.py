"""The query rest: rest n, round n p, more, and the edge at snapshot 100."""

import unittest

from tests.helper import HouseTest, last


class Rest(HouseTest):
    def test_empty_house(self):
        self.check([("rest", "rest 0")])

    def test_at_rest_already(self):
        self.check([("sensor s 1", "ok"), ("thing t 1", "ok"), ("rest", "rest 0"),
                    ("rule r 1 after 0 if s = 2 then t is 5", "ok"), ("rest", "rest 0")])

    def test_one_step(self):
        self.check([("thing t 1", "ok"), ("rule r 1 after 0 if 1 = 1 then t is 5", "ok"), ("rest", "rest 1"),
                    ("tick 1", "ok 1"), ("rest", "rest 0")])

    def test_counts_belong_to_the_snapshot(self):
        self.check([("thing t 1", "ok"), ("rule r 1 after 20 if 1 = 1 then t is 1", "ok"), ("rest", "rest 21"),
                    ("tick 5", "ok 5"), ("rest", "rest 16")])

    def test_falling_count_belongs_to_the_snapshot(self):
        self.check([("sensor s 1", "ok"), ("thing t 1", "ok"), ("rule r 1 after 20 if s = 1 then t is 1", "ok"),
                    ("tick 3", "ok 3"), ("set s 2", "ok"), ("rest", "rest 1")])

    def test_targets_belong_to_the_snapshot(self):
        self.check([("thing t 1", "ok"), ("deaf t", "ok"), ("hold t 2 0 9", "ok 9"), ("rest", "rest 1")])

    def test_origins_belong_to_the_snapshot(self):
        self.check([("thing t 1", "ok"), ("hold t 1 0 9", "ok 9"), ("rest", "rest 1"), ("tick 1", "ok 1"),
                    ("rest", "rest 0"), ("hand t 1", "ok"), ("rest", "rest 1")])

    def test_values_belong_to_the_snapshot(self):
        self.check([("thing t 1", "ok"), ("deaf t", "ok"), ("hand t 5", "ok"), ("hears t", "ok"), ("rest", "rest 1")])

    def test_names_of_rules_belong_to_origins(self):
        self.check([("sensor s 1", "ok"), ("thing t 1", "ok"), ("rule a 1 after 0 if s = 1 then t is 1", "ok"),
                    ("rule b 2 after 0 if s = 1 then t is 1", "ok"), ("tick 1", "ok 1"), ("drop b", "ok"),
                    ("rest", "rest 1")])

    def test_clock_stands_still(self):
        self.check([("thing t 1", "ok"), ("rule r 1 after 0 if 1 = 1 then t is time", "ok"), ("rest", "rest 1"),
                    ("hold t 5 9 1", "ok 1"), ("rest", "rest 1"), ("tick 1", "ok 1"), ("rest", "rest 0"),
                    ("state", "1 / t 1 1 rule r")])

    def test_hold_that_lasts_stays_while_the_clock_stands_still(self):
        self.check([("thing t 1", "ok"), ("thing u 0", "ok"), ("hold t 2 5 1", "ok 1"),
                    ("rule r 1 after 9 if t = 2 then u is 1", "ok"), ("rest", "rest 11")])

    def test_hold_that_has_ended_has_no_effect(self):
        self.check([("thing t 1", "ok"), ("hold t 2 5 1", "ok 1"), ("tick 1", "ok 1"), ("rest", "rest 0")])

    def test_asking_changes_nothing(self):
        self.check([("thing t 1", "ok"), ("rule r 1 after 0 if 1 = 1 then t is t + 1", "ok"), ("rest", "more"),
                    ("state", "1 / t 1 1 none"), ("whynot r", "waits 0"), ("tick 1", "ok 1"), ("was t 1", "2")])


class Round(HouseTest):
    def test_from_the_beginning(self):
        self.check([("thing t 0", "ok"), ("rule r 1 after 0 if 1 = 1 then t is 1 - t", "ok"), ("tick 1", "ok 1"),
                    ("rest", "round 0 2")])

    def test_later(self):
        self.check([("thing t 0", "ok"), ("rule r 1 after 0 if 1 = 1 then t is 1 - t", "ok"), ("rest", "round 1 2")])

    def test_longer_period(self):
        self.check([("thing t 0", "ok"), ("rule up 1 after 0 if 1 = 1 then t is t + 1", "ok"),
                    ("rule back 2 after 0 if t = 4 then t is 0", "ok"), ("rest", "round 1 5"), ("tick 3", "ok 3"),
                    ("rest", "round 0 5")])

    def test_delay_makes_a_round(self):
        self.check([("thing t 0", "ok"), ("rule on 1 after 2 if t = 0 then t is 1", "ok"),
                    ("rule off 1 after 1 if t = 1 then t is 0", "ok"), ("rest", "round 3 5")])


class Edge(HouseTest):
    def counter(self, start):
        """A device that counts up from start to 999 and stays there."""
        return [f"thing t {start}", "rule r 1 after 0 if 1 = 1 then t is t + 1", "tick 1"]

    def test_rest_that_is_just_seen(self):
        self.assertEqual(last(self.counter(899) + ["rest"]), "rest 99")

    def test_rest_that_is_just_not_seen(self):
        self.assertEqual(last(self.counter(898) + ["rest"]), "more")

    def test_rest_that_is_well_seen(self):
        self.assertEqual(last(self.counter(900) + ["rest"]), "rest 98")

    def ring(self, size):
        """A device that goes round through so many values."""
        return ["thing t 0", "rule up 1 after 0 if 1 = 1 then t is t + 1",
                f"rule back 2 after 0 if t = {size - 1} then t is 0", "tick 2"]

    def test_round_that_is_just_seen(self):
        self.assertEqual(last(self.ring(100) + ["rest"]), "round 0 100")

    def test_round_that_is_just_not_seen(self):
        self.assertEqual(last(self.ring(101) + ["rest"]), "more")

    def test_round_that_begins_later(self):
        start = ["thing t 0", "rule up 1 after 0 if 1 = 1 then t is t + 1"]
        self.assertEqual(last(start + ["rule back 2 after 0 if t = 99 then t is 50", "tick 2", "rest"]), "round 49 50")
        self.assertEqual(last(start + ["rule back 2 after 0 if t = 99 then t is 50", "tick 1", "rest"]), "round 50 50")
        self.assertEqual(last(start + ["rule back 2 after 0 if t = 100 then t is 50", "tick 1", "rest"]), "more")

    def test_more(self):
        self.check([("thing t 0", "ok"), ("rule r 1 after 0 if 1 = 1 then t is t + 1", "ok"), ("rest", "more")])


if __name__ == "__main__":
    unittest.main()
