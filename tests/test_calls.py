"""The function answers: how calls come in, how answers go out, and what is refused by -1."""

import unittest

from houserulesbook.house import answers
from tests.helper import HouseTest, ask, last, request

NO_FORM = [ord(sign) for sign in "no form"]


class Answers(HouseTest):
    def test_answer_is_counted_then_its_length_then_its_bytes(self):
        self.assertEqual(answers(request(["thing a 1"])), [3, 2, 111, 107])
        self.assertEqual(answers(request(["tick 12"])), [6, 5, 111, 107, 32, 49, 50])

    def test_entries_of_a_list_stand_behind_byte_ten(self):
        entry = [ord(sign) for sign in "a 1"]
        got = answers(request(["sensor a 1", "state"]))
        self.assertEqual(got, [3, 2, 111, 107] + [6, 5, 49, 10] + entry)

    def test_refusal_is_minus_one_alone(self):
        self.assertEqual(answers(request([[31]])), [1, -1])

    def test_calls_are_made_one_after_another_on_one_house(self):
        self.assertEqual(ask(["thing a 1", [31], "hand a 5", "was a 0"]), ["ok", -1, "ok", "5"])

    def test_sixty_calls(self):
        self.assertEqual(ask(["tick 500"] * 60)[-1], "ok 30000")

    def test_each_request_begins_with_an_empty_house(self):
        self.assertEqual(last(["sensor a 1", "thing b 2", "tick 5", "state"]), "2\na 1\nb 2 2 none")
        self.assertEqual(ask(["state", "list", "tick 1"]), ["0", "0", "ok 1"])

    def test_asked_twice_it_answers_the_same(self):
        calls = request(["sensor a 1", "thing b 2", "rule c 1 after 0 if a = 1 then b is b + 1", "tick 5", "state",
                         "list", "rest", "try a 2 4", "why b", "was b 3", [200], "nothing"])
        self.assertEqual(answers(calls), answers(calls))

    def test_what_is_handed_in_is_not_changed(self):
        calls = request(["sensor a 1", "thing b 2", "rule c 1 after 0 if a = 1 then b is 3", "tick 5", [200] * 179,
                         "", "  ", "hold b 1 1 1", "drop c", "state"])
        before = list(calls)
        answers(calls)
        self.assertEqual(calls, before)

    def test_only_whole_numbers_are_given_back(self):
        got = answers(request(["sensor a 1", "thing b 2", "state", "rest", "", [0]]))
        self.assertEqual([number for number in got if type(number) is not int], [])
        self.assertIs(type(got), list)


class Refusals(HouseTest):
    def test_lengths(self):
        self.assertEqual(ask([[32] * 160, [32] * 161, [97] * 160, [97] * 161, [97] * 179]),
                         ["no form", -1, "no form", -1, -1])

    def test_command_of_160_bytes_is_executed_and_one_of_161_is_not(self):
        head = "rule c 1 after 0 if " + " & ".join(["b = 1"] * 15) + " then b is "
        full = head + "10000 + 1000"
        self.assertEqual(len(full), 160)
        self.assertEqual(ask(["thing b 1", full, "rings"]), ["ok", "ok", "1\nb"])
        self.assertEqual(ask(["thing b 1", full + "0", "list"]), ["ok", -1, "0"])

    def test_bytes(self):
        self.assertEqual(ask([[31], [32], [126], [127]]), [-1, "no form", "no form", -1])

    def test_bytes_within_an_else_good_command(self):
        good = [ord(sign) for sign in "tick 1"]
        for byte in [0, 9, 10, 13, 31, 127, 128, 255, 288, -1, -32, 2 ** 53, -2 ** 53]:
            self.assertEqual(ask([good + [byte]])[0], -1, byte)
            self.assertEqual(ask([[byte] + good])[0], -1, byte)
            self.assertEqual(ask([good[:4] + [byte] + good[5:], "tick 1"]), [-1, "ok 1"], byte)

    def test_each_byte_from_32_to_126_is_let_in(self):
        for byte in range(32, 127):
            self.assertEqual(ask([[byte]]), ["no form"], byte)

    def test_no_byte_stands_for_another_one(self):
        for place, wanted in enumerate("tick 1"):
            for byte in range(32, 127):
                command = [ord(sign) for sign in "tick 1"]
                command[place] = byte
                good = byte == ord(wanted) or (place == 5 and byte in range(49, 58))
                self.assertEqual(ask([command])[0][:2], "ok" if good else "no", command)

    def test_refusal_comes_ahead_of_no_form(self):
        self.assertEqual(ask(["x" * 161, "x\x7f", " tick 1\x1f"]), [-1, -1, -1])

    def test_empty_command(self):
        self.assertEqual(answers([1, 0, 0]), [8, 7] + NO_FORM)
        self.assertEqual(answers([1, 0, 0, 1, 0, 0]), ([8, 7] + NO_FORM) * 2)

    def test_refusal_changes_nothing(self):
        before = ["sensor a 1", "thing b 2", "rule c 1 after 0 if a = 1 then b is 3", "tick 2"]
        self.check_refused(before, "drop c\t", -1)
        self.check_refused(before, "drop c" + " " * 155, -1)


if __name__ == "__main__":
    unittest.main()
