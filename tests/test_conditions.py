"""Conditions and sums: their form, their meaning, and how list shows them."""

import ast
import random
import re
import unittest

from tests.helper import HouseTest, ask, draw_condition, entries, last

BEFORE = ["sensor a 1", "sensor b 2", "sensor c 3", "thing t 0"]


def rule(condition, amount="1"):
    return f"rule r 1 after 0 if {condition} then t is {amount}"


def shown(condition, before=BEFORE):
    entry = entries(last(before + [rule(condition), "list"]))[0]
    return entry[len("r 1 after 0 if "):-len(" then t is 1")]


def is_held(condition, before=BEFORE):
    return last(before + [rule(condition), "tick 1", "whynot r"]) == "speaks"


class Sums(HouseTest):
    def test_up_to_four_terms(self):
        for size in [1, 2, 3, 4]:
            terms = " + ".join(["1"] * size)
            self.assertTrue(is_held(f"{terms} = {size}"))
            self.assertTrue(is_held(f"{size} = {terms}"))
            self.assertEqual(last(BEFORE + [rule("1 = 1", terms), "tick 1", "was t 1"]), str(size))

    def test_five_terms(self):
        for command in [rule("1 + 1 + 1 + 1 + 1 = 5"), rule("5 = 1 + 1 + 1 + 1 + 1"), rule("1 - 1 - 1 - 1 - 1 < 5"),
                        rule("1 = 1", "1 + 1 + 1 + 1 + 1"), rule("1 = 1", "a - a + a - a + a")]:
            self.check_refused(BEFORE, command, "no form")

    def test_meaning(self):
        for condition, wanted in [("a + b = c", True), ("c - a = b", True), ("a - b - c = 0 - 4", True),
                                  ("a - b + c = 2", True), ("a - c < 0", True), ("0 < a - c", False),
                                  ("a < a", False), ("a < b", True), ("b < a", False), ("a = a", True),
                                  ("time = 1", True), ("time + a = b", True), ("t = 0", True), ("2 < 10", True),
                                  ("10 < 2", False), ("0 - 1 = 1", False)]:
            self.assertIs(is_held(condition), wanted, condition)

    def test_malformed(self):
        for terms in ["", "+", "-", "+ 1", "- 1", "1 +", "1 -", "1 + + 1", "1 - - 1", "1 1", "a b", "1 +1", "1+1",
                      "( 1 )", "1 + ( 1 )", "~ 1", "1 * 1", "1 < 1", "1 = 1", "1 & 1"]:
            self.check_refused(BEFORE, rule("1 = 1", terms), "no form")
            if "=" not in terms and "<" not in terms and terms != "~ 1":
                self.check_refused(BEFORE, rule(f"{terms} = 1"), "no form")
            self.check_refused(BEFORE, rule(f"1 < {terms}"), "no form")


class Conditions(HouseTest):
    def test_meaning(self):
        yes, no = "1 = 1", "1 = 2"
        for condition, wanted in [(yes, True), (no, False), (f"~ {yes}", False), (f"~ {no}", True),
                                  (f"~ ~ {yes}", True), (f"{yes} & {yes}", True), (f"{yes} & {no}", False),
                                  (f"{no} & {yes}", False), (f"{yes} | {no}", True), (f"{no} | {yes}", True),
                                  (f"{no} | {no}", False), (f"{yes} | {yes} & {no}", True),
                                  (f"( {yes} | {yes} ) & {no}", False), (f"{no} & {yes} | {yes}", True),
                                  (f"{no} & ( {yes} | {yes} )", False), (f"~ {no} & {no}", False),
                                  (f"~ ( {no} & {no} )", True), (f"~ {yes} | {yes}", True),
                                  (f"~ ( {yes} | {yes} )", False)]:
            self.assertIs(is_held(condition), wanted, condition)

    def test_meaning_as_python_has_it(self):
        dice = random.Random(11)
        for turn in range(400):
            condition = draw_condition(dice, ["a", "b", "c", "t", "time"], 3)
            if len(rule(condition)) <= 160:
                text = condition.replace("=", "==").replace("&", "and").replace("|", "or").replace("~", "not")
                wanted = eval(text, {"a": 1, "b": 2, "c": 3, "t": 0, "time": 1})
                self.assertIs(is_held(condition), wanted, condition)

    def test_malformed(self):
        for condition in ["", "1", "a", "~", "( )", "()", "( 1 = 1", "1 = 1 )", "1 = 1 &", "& 1 = 1", "| 1 = 1",
                          "1 = 1 | | 1 = 1", "1 = 1 & & 1 = 1", "1 = 1 & | 1 = 1", "1 = 1 1 = 1", "1 = 1 ~ 1 = 1",
                          "1 = 1 = 1", "1 < 1 < 1", "1 > 1", "1 == 1", "1 <= 1", "1=1", "~1 = 1", "(1 = 1)", "< 1",
                          "1 <", "= 1", "1 =", "( 1 = 1 ) = 1", "1 = ( 1 )", "1 = ~ 1", "( ( 1 = 1 )", "1 = 1 then",
                          "1 = 1 if 1 = 1", "( a ) & b = 1", "1 = 1 and 1 = 1", ") 1 = 1 ("]:
            self.check_refused(BEFORE, rule(condition), "no form")

    def test_words_of_the_rule(self):
        for command in ["rule r 1 behind 0 if 1 = 1 then t is 1", "rule r 1 after 0 when 1 = 1 then t is 1",
                        "rule r 1 after 0 if 1 = 1 so t is 1", "rule r 1 after 0 if 1 = 1 then t was 1",
                        "rule r after 0 1 if 1 = 1 then t is 1", "rule r 1 after 0 if 1 = 1 then t is",
                        "rule r 1 after 0 if 1 = 1 then 1 is t", "rule r 1 after 0 if 1 = 1 then t is 1 then t is 1",
                        "rule r 1 after 0 if 1 = 1 then time is 1", "rule r 1 after 0 then t is 1 if 1 = 1"]:
            self.check_refused(BEFORE, command, "no form")


class Nesting(HouseTest):
    def test_eight_of_a_kind(self):
        self.assertTrue(is_held("~ " * 8 + "1 = 1"))
        self.assertTrue(is_held("( " * 8 + "1 = 1" + " )" * 8))
        self.check_refused(BEFORE, rule("~ " * 9 + "1 = 1"), "no form")
        self.check_refused(BEFORE, rule("( " * 9 + "1 = 1" + " )" * 9), "no form")

    def test_eight_and_nine_mixed(self):
        self.assertTrue(is_held("~ ( ~ ( ~ ( ~ ( 1 = 1 ) ) ) )"))
        self.assertTrue(is_held("( ~ ( ~ ( ~ ( ~ 1 = 1 ) ) ) )"))
        self.check_refused(BEFORE, rule("~ ( ~ ( ~ ( ~ ( ~ 1 = 1 ) ) ) )"), "no form")
        self.check_refused(BEFORE, rule("( ~ ( ~ ( ~ ( ~ ( 1 = 1 ) ) ) ) )"), "no form")
        self.check_refused(BEFORE, rule("~ ~ ~ ~ ( ( ( ( ( 1 = 1 ) ) ) ) )"), "no form")

    def test_one_beside_another_is_not_nested(self):
        self.assertTrue(is_held(" & ".join(["~ ~ ~ ~ ~ ~ ~ ~ 1 = 1"] * 3)))
        self.assertTrue(is_held("( ( 1 = 1 ) ) & ( ( ( 1 = 1 ) | ( 1 = 2 ) ) ) & ( ( ( 1 = 1 ) ) ) & ( 1 = 1 )"))
        self.assertTrue(is_held(" & ".join(["( 1 = 1 )"] * 9)))

    def test_nine_in_a_later_part(self):
        self.check_refused(BEFORE, rule("1 = 1 & ( 1 = 1 | " + "~ " * 8 + "1 = 1 )"), "no form")
        self.assertTrue(is_held("1 = 1 & ( 1 = 1 | " + "~ " * 7 + "1 = 1 )"))

    def test_many_more(self):
        self.check_refused(BEFORE, rule("~ " * 60 + "1 = 1"), "no form")
        self.assertEqual(last(BEFORE + ["rule r 1 after 0 if" + " (" * 70]), "no form")


def atoms(condition):
    """A condition with a name in the place of each comparison, so that Python groups it in the same way."""
    pieces = [piece.strip() for piece in re.split(r"([(&|~)])", condition) if piece.strip()]
    return " ".join([piece if piece in "(&|~)" else "n" + piece.encode().hex() for piece in pieces])


def grouping(text):
    return ast.dump(ast.parse(text.strip(), mode="eval"))


def pairs(text):
    """The places of each opening parenthesis and the one that closes it."""
    waiting = []
    found = []
    for place, sign in enumerate(text):
        if sign == "(":
            waiting.append(place)
        if sign == ")":
            found.append((waiting.pop(), place))
    return found


class Shown(HouseTest):
    def check_shown(self, rows):
        names = {"p": "a = 1", "q": "b < 2", "r": "c = 3", "s": "t < 4"}
        for given, wanted in rows:
            given = " ".join([names.get(word, word) for word in given.split(" ")])
            wanted = " ".join([names.get(word, word) for word in wanted.split(" ")])
            self.assertEqual(shown(given), wanted, given)

    def test_whole_entry(self):
        self.check([("list", "0"), ("sensor a 1", "ok"), ("thing t 0", "ok"),
                    ("rule x 9 after 20 if a + 1 - time < 99999 then t is t + a - 0 + 5", "ok"),
                    ("rule b 0 after 0 if ( ~ ( a = t ) ) then t is time", "ok"),
                    ("list", "2 / x 9 after 20 if a + 1 - time < 99999 then t is t + a - 0 + 5"
                             " / b 0 after 0 if ~ a = t then t is time")])

    def test_order_of_creation(self):
        self.check([("thing t 0", "ok"), ("rule c 1 after 0 if 1 = 1 then t is 1", "ok"),
                    ("rule a 9 after 0 if 1 = 1 then t is 1", "ok"), ("rule b 5 after 0 if 1 = 1 then t is 1", "ok"),
                    ("list", "3 / c 1 after 0 if 1 = 1 then t is 1 / a 9 after 0 if 1 = 1 then t is 1"
                             " / b 5 after 0 if 1 = 1 then t is 1")])

    def test_without_parentheses(self):
        self.check_shown([("p", "p"), ("~ p", "~ p"), ("p & q", "p & q"), ("p | q", "p | q"),
                          ("p & q & r", "p & q & r"), ("p | q & r | s", "p | q & r | s")])

    def test_parentheses_that_are_not_necessary(self):
        self.check_shown([("( p )", "p"), ("( ( p ) )", "p"), ("~ ( p )", "~ p"), ("( ~ p )", "~ p"),
                          ("~ ( ~ p )", "~ ~ p"), ("~ ( ( ~ ( p ) ) )", "~ ~ p"), ("( p & q )", "p & q"),
                          ("( p ) & ( q )", "p & q"), ("( p & q ) & r", "p & q & r"), ("( p | q ) | r", "p | q | r"),
                          ("( ( p & q ) & r ) & s", "p & q & r & s"), ("( p & q ) | r", "p & q | r"),
                          ("p | ( q & r )", "p | q & r"), ("( ~ p ) & ( ~ q )", "~ p & ~ q"),
                          ("( ( p | q ) | ( r & s ) )", "p | q | r & s")])

    def test_parentheses_that_are_necessary(self):
        self.check_shown([("p & ( q & r )", "p & ( q & r )"), ("p | ( q | r )", "p | ( q | r )"),
                          ("( p | q ) & r", "( p | q ) & r"), ("p & ( q | r )", "p & ( q | r )"),
                          ("~ ( p & q )", "~ ( p & q )"), ("~ ( p | q )", "~ ( p | q )")])

    def test_mixed(self):
        self.check_shown([("p & ( ( q & r ) & s )", "p & ( q & r & s )"), ("p & ( q & ( r & s ) )", "p & ( q & ( r & s ) )"),
                          ("( p & ( q & r ) ) & s", "p & ( q & r ) & s"), ("~ ( ( p & q ) )", "~ ( p & q )"),
                          ("( ( p | ( q | r ) ) )", "p | ( q | r )"), ("~ ( ( p ) | ( ~ ( q ) ) )", "~ ( p | ~ q )"),
                          ("( ( p | q ) & ( r ) ) | s", "( p | q ) & r | s"),
                          ("p | ( ( q | r ) & s )", "p | ( q | r ) & s"), ("p & ( ~ ( q & r ) )", "p & ~ ( q & r )"),
                          ("~ ( ( ( p | q ) ) & r )", "~ ( ( p | q ) & r )")])

    def test_grouping_stays_and_each_pair_is_necessary(self):
        dice = random.Random(12)
        turns = 0
        while turns < 400:
            condition = draw_condition(dice, ["a", "b", "c", "t", "time"], 4)
            if len(rule(condition)) > 160 or "(" not in condition:
                continue
            turns += 1
            got = atoms(shown(condition))
            self.assertEqual(grouping(got), grouping(atoms(condition)), condition)
            for first, other in pairs(got):
                without = got[:first] + got[first + 1:other] + got[other + 1:]
                self.assertNotEqual(grouping(without), grouping(got), condition)

    def test_shown_rule_is_read_back_as_itself(self):
        dice = random.Random(13)
        for turn in range(100):
            condition = draw_condition(dice, ["a", "b"], 3)
            if len(rule(condition)) <= 160:
                self.assertEqual(shown(shown(condition)), shown(condition))

    def test_shown_rule_may_lose_nesting_but_is_of_a_form_again(self):
        deep = "( ( ( ( ( ( ( ( a = 1 ) ) ) ) ) ) ) )"
        self.assertEqual(shown(deep), "a = 1")
        self.assertEqual(ask(BEFORE + [rule("a = 1")])[-1], "ok")


if __name__ == "__main__":
    unittest.main()
