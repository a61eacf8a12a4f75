"""What is a command: words, names, numbers and their ranges."""

import unittest

from tests.helper import HouseTest, ask, last

HOUSE = ["sensor s 1", "thing t 1", "rule r 1 after 0 if s = 1 then t is 2"]

# Each command in its form, and its answer in the house above.
GOOD = {
    "sensor a 5": "ok",
    "thing a 5": "ok",
    "set s 5": "ok",
    "deaf t": "ok",
    "hears t": "ok",
    "hand t 5": "ok",
    "hold t 5 1 9": "ok 9",
    "free t": "no hold",
    "rule a 1 after 2 if s = 1 then t is 2": "ok",
    "drop r": "ok",
    "tick 3": "ok 3",
    "state": "2\ns 1\nt 1 1 none",
    "was t 0": "1",
    "list": "1\nr 1 after 0 if s = 1 then t is 2",
    "why t": "none",
    "whynot r": "waits 0",
    "rings": "0",
    "rest": "rest 1",
    "try s 5 9": "1\nt 1",
}

# The ends of every range of numbers: a command with N in the place of the number, the least, the most.
RANGES = [
    ("sensor a N", 0, 999),
    ("thing a N", 0, 999),
    ("set s N", 0, 999),
    ("hand t N", 0, 999),
    ("hold t N 1 9", 0, 999),
    ("hold t 5 N 9", 0, 9),
    ("hold t 5 1 N", 1, 999),
    ("rule a N after 2 if s = 1 then t is 2", 0, 9),
    ("rule a 1 after N if s = 1 then t is 2", 0, 20),
    ("rule a 1 after 2 if s = N then t is 2", 0, 99999),
    ("rule a 1 after 2 if N + s < 1 then t is 2", 0, 99999),
    ("rule a 1 after 2 if s = 1 then t is N", 0, 99999),
    ("rule a 1 after 2 if s = 1 then t is t - N", 0, 99999),
    ("tick N", 1, 500),
    ("try s N 9", 0, 999),
    ("try s 5 N", 1, 100),
]

# Each place of a command where a name stands, marked by N.
NAME_PLACES = [
    "sensor N 5", "thing N 5", "set N 5", "deaf N", "hears N", "hand N 5", "hold N 5 1 9", "free N",
    "rule N 1 after 2 if s = 1 then t is 2", "rule a 1 after 2 if s = 1 then N is 2", "drop N", "was N 0", "why N",
    "whynot N", "try N 5 9",
]


class Words(HouseTest):
    def test_good_forms(self):
        self.check_each(HOUSE, list(GOOD.items()))

    def test_spaces_at_the_ends(self):
        for command in GOOD:
            self.check_refused(HOUSE, " " + command, "no form")
            self.check_refused(HOUSE, command + " ", "no form")

    def test_doubled_spaces(self):
        for command in GOOD:
            for place, sign in enumerate(command):
                if sign == " ":
                    self.check_refused(HOUSE, command[:place] + " " + command[place:], "no form")

    def test_word_too_much(self):
        for command in GOOD:
            for word in ["1", "a", "time", "&", "("]:
                self.check_refused(HOUSE, command + " " + word, "no form")

    def test_word_too_few(self):
        for command in GOOD:
            words = command.split(" ")
            for place in range(len(words)):
                self.check_refused(HOUSE, " ".join(words[:place] + words[place + 1:]), "no form")

    def test_word_that_no_command_has(self):
        for command in GOOD:
            words = command.split(" ")
            for place in range(len(words)):
                for word in ["", "?", "A", "999999", "*", ">", ")", "%"]:
                    self.check_refused(HOUSE, " ".join(words[:place] + [word] + words[place + 1:]), "no form")

    def test_no_words_and_blanks(self):
        for command in ["", " ", "  ", "ok", "no", "State", "STATE", "state\\", "rule", "a b c"]:
            self.check_refused(HOUSE, command, "no form")


class Names(HouseTest):
    def test_lengths(self):
        self.assertEqual(ask(["sensor a 1", "sensor abcdefgh 1", "sensor abcdefghi 1"]), ["ok", "ok", "no form"])
        self.assertEqual(ask(["thing z 1", "thing zyxwvuts 1", "thing zyxwvutsr 1"]), ["ok", "ok", "no form"])

    def test_long_names_everywhere(self):
        self.check([
            ("sensor ssssssss 1", "ok"),
            ("thing tttttttt 1", "ok"),
            ("rule rrrrrrrr 1 after 0 if ssssssss = 1 then tttttttt is ssssssss", "ok"),
            ("why tttttttt", "none"),
            ("drop rrrrrrrr", "ok"),
        ])

    def test_words_that_are_no_names(self):
        for place in NAME_PLACES:
            for word in ["time", "if", "then", "is", "after"]:
                self.check_refused(HOUSE, place.replace("N", word), "no form")

    def test_malformed_names(self):
        for place in NAME_PLACES:
            for word in ["abcdefghi", "A", "aB", "a1", "1", "a-b", "a_b", "~", "(", "a.", "{"]:
                self.check_refused(HOUSE, place.replace("N", word), "no form")

    def test_words_of_commands_are_names(self):
        words = ["rule", "sensor", "thing", "state", "hold", "deaf", "none", "gone", "times", "iff", "no", "ok"]
        for word in words:
            self.assertEqual(ask([f"sensor {word} 1"]), ["ok"], word)
            self.assertEqual(ask([f"thing {word} 1"]), ["ok"], word)

    def test_all_letters(self):
        for place in range(26):
            letter = chr(97 + place)
            self.assertEqual(last([f"sensor {letter} 1", "state"]), f"1\n{letter} 1")

    def test_name_in_a_sum_that_is_none(self):
        for word in ["if", "then", "is", "after", "abcdefghi", "S", "s1"]:
            self.check_refused(HOUSE, f"rule a 1 after 2 if {word} = 1 then t is 2", "no form")
            self.check_refused(HOUSE, f"rule a 1 after 2 if s = {word} then t is 2", "no form")
            self.check_refused(HOUSE, f"rule a 1 after 2 if s = 1 then t is {word}", "no form")


class Numbers(HouseTest):
    def test_ends_of_every_range(self):
        for place, least, most in RANGES:
            for number in [least, most]:
                answer = last(HOUSE + [place.replace("N", str(number))])
                self.assertNotEqual(answer[:2], "no", (place, number))

    def test_outside_every_range(self):
        for place, least, most in RANGES:
            for number in [least - 1, most + 1]:
                self.check_refused(HOUSE, place.replace("N", str(number)), "no form")

    def test_range_of_was(self):
        self.assertEqual(ask(["thing t 1", "was t 0", "was t 99999", "was t 100000"]),
                         ["ok", "1", "no time", "no form"])

    def test_malformed_numbers(self):
        for place in [place for place, least, most in RANGES] + ["was t N"]:
            for word in ["00", "01", "007", "000001", "100000", "-1", "+1", "1.", "1a", "0x1", "one", "--", "1,2"]:
                if word != "one" or "if" not in place or place.index("N") < place.index("if"):
                    self.check_refused(HOUSE, place.replace("N", word), "no form")

    def test_leading_zeros_of_numbers_in_range(self):
        for place, least, most in RANGES:
            self.check_refused(HOUSE, place.replace("N", "0" + str(max(least, 1))), "no form")

    def test_zero_is_a_number(self):
        self.assertEqual(last(["sensor a 0", "state"]), "1\na 0")

    def test_all_digits(self):
        self.assertEqual(ask(["thing t 1", "hand t 123", "was t 0", "hand t 456", "was t 0", "hand t 789", "was t 0",
                              "hand t 900", "was t 0"])[2::2], ["123", "456", "789", "900"])

    def test_five_digits(self):
        self.assertEqual(last(["thing t 1", "rule r 1 after 0 if 99999 = 99999 then t is 99999 - 99990", "tick 1",
                               "state"]), "1\nt 9 9 rule r")


class OrderOfErrors(HouseTest):
    def test_no_form_comes_ahead_of_the_errors_of_the_house(self):
        rows = ["sensor s 1000", "thing t 1000", "set x 1000", "deaf x y", "hears x y", "hand x 1000", "hold x 1 10 1",
                "hold x 1 1 0", "free x y", "rule s 10 after 0 if s = 1 then t is 2",
                "rule s 1 after 21 if s = 1 then t is 2", "rule a 1 after 0 if x = 1 then t is 2 +",
                "drop x y", "was x 100000", "why x y", "whynot x y", "try x 1000 1", "try x 1 101", "try x 1 0"]
        for command in rows:
            self.check_refused(HOUSE, command, "no form")


if __name__ == "__main__":
    unittest.main()
