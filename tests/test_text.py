"""What a text and its lines are: bytes, lengths, blanks, and what each line may say."""

import unittest

from houserulesdesk.passes import settle
from tests.helpers import bytes_of, settled, told

LONGEST_NOT_RULE = "rule " + "not " * 20 + "a = 0 -> a = 1"
LONGEST_NOT_BAN = "never " + "not " * 22 + "a = 0"


class Bytes(unittest.TestCase):
    def full_text(self, size):
        """A house with one thing whose text has just so many bytes, blanks among them."""
        lines = ["out a 1".ljust(100)] + ["rule a = 0 -> a = 1".ljust(99)] * 11
        text = told(*lines)
        self.assertEqual(len(text), 1201)
        return text + [32] * (size - 1201) if size > 1201 else text[:size]

    def test_1200_bytes_and_1201(self):
        self.assertEqual(settle(self.full_text(1200), [0]), [1, 1])
        self.assertEqual(settle(self.full_text(1201), [0]), [-22])
        self.assertEqual(settle(self.full_text(1202), [0]), [-22])
        self.assertEqual(settle(self.full_text(2000), [0]), [-22])

    def test_a_line_of_100_bytes_and_of_101(self):
        self.assertEqual(settled(["out a 1".ljust(100)], [0]), [0, 0])
        self.assertEqual(settled(["out a 1".rjust(100)], [0]), [0, 0])
        self.assertEqual(settled(["out a 1".ljust(101)], [0]), [-1001])
        self.assertEqual(settled(["out a 1".rjust(101)], [0]), [-1001])
        self.assertEqual(settle(bytes_of("out a 1".ljust(100)), [0]), [0, 0])
        self.assertEqual(settle(bytes_of("out a 1".ljust(101)), [0]), [-1001])

    def test_a_line_of_100_bytes_and_of_101_without_a_blank_too_many(self):
        things = ["in a 1", "out b 1", "out bb 1"]
        start = "rule " + "or a = 1 " * 9 + "a = 0 -> "
        self.assertEqual(len(start + "b = 1"), 100)
        self.assertEqual(settled(things + [start + "b = 1"], [0, 0, 0]), [1, 0, 1, 0])
        self.assertEqual(settled(things + [start + "bb = 1"], [0, 0, 0]), [-1004])

    def test_bytes_31_32_126_and_127(self):
        line = bytes_of("out a 1")
        self.assertEqual(settle(line + [32], [0]), [0, 0])
        self.assertEqual(settle([32] + line, [0]), [0, 0])
        for byte in (0, 9, 11, 13, 31, 127, 128, 160, 255):
            self.assertEqual(settle(line + [byte], [0]), [-1001])
            self.assertEqual(settle([byte] + line, [0]), [-1001])
            self.assertEqual(settle(line[:3] + [byte] + line[4:], [0]), [-1001])

    def test_byte_126_stands_in_no_word_that_says_something(self):
        for byte in (33, 63, 65, 96, 123, 126):
            self.assertEqual(settle(bytes_of("out a 1 ") + [byte], [0]), [-1001])
            self.assertEqual(settle(bytes_of("out ") + [byte] + bytes_of(" 1"), [0]), [-1001])
            self.assertEqual(settle(bytes_of("out a") + [byte] + bytes_of(" 1"), [0]), [-1001])


class Lines(unittest.TestCase):
    def test_an_empty_text_is_a_house_without_things(self):
        self.assertEqual(settle([], []), [0])
        self.assertEqual(settle([], [0]), [-34])

    def test_an_empty_line_says_nothing(self):
        self.assertEqual(settle([10], []), [-1001])
        self.assertEqual(settle([10, 10], []), [-1001])
        self.assertEqual(settle(bytes_of("out a 1\n\n"), [0]), [-1002])
        self.assertEqual(settle(bytes_of("\nout a 1\n"), [0]), [-1001])
        self.assertEqual(settle(bytes_of("out a 1\n\nout b 1\n"), [0, 0]), [-1002])

    def test_a_line_of_blanks_says_nothing(self):
        self.assertEqual(settle(bytes_of("   "), []), [-1001])
        self.assertEqual(settle(bytes_of("out a 1\n "), [0]), [-1002])

    def test_a_last_line_with_and_without_its_end(self):
        text = "out a 1\nrule a = 0 -> a = 1"
        self.assertEqual(settle(bytes_of(text), [0]), [1, 1])
        self.assertEqual(settle(bytes_of(text + "\n"), [0]), [1, 1])
        self.assertEqual(settle(bytes_of(text + " -"), [0]), [-1002])

    def test_blanks_first_last_and_several(self):
        text = "   out   a  1 \n  rule  not   a =   1  ->   a  =  1   \n"
        self.assertEqual(settle(bytes_of(text), [0]), [1, 1])

    def test_words_need_blanks_between(self):
        for line in ("outa 1", "out a1", "rule a=0 -> a = 1", "rule a = 0->a = 1", "rule a = 0 -> a=1",
                     "rule a = 0 - > a = 1", "nevera = 0", "never a= 0", "never nota = 0"):
            self.assertEqual(settled(["out a 1", line], [0]), [-1002], line)

    def test_lines_that_begin_with_another_word(self):
        for line in ("a", "a = 0", "and", "Out b 1", "RULE a = 0 -> a = 1", "Never a = 0", "not a = 0", "-> a = 1"):
            self.assertEqual(settled(["out a 1", line], [0]), [-1002], line)

    def test_lines_are_numbered_from_1_on(self):
        for k in range(1, 17):
            lines = ["out a 1"] + ["never a = 0"] * (k - 2) if k > 1 else []
            self.assertEqual(settled(lines + ["?"], [0]), [-1000 - k])

    def test_the_highest_line_number(self):
        lines = [f"out {name} 1" for name in "abcdef"] + ["rule a = 0 -> a = 1"] * 16
        self.assertEqual(settled(lines, [0] * 6), [1, 1, 0, 0, 0, 0, 0])
        for line in ("in g 1", "never a = 0", "rule a = 0 -> a = 1", "", "?"):
            self.assertEqual(settled(lines + [line], [0] * 6), [-1023])


class Things(unittest.TestCase):
    def test_six_things_and_seven(self):
        six = [f"in {name} 1" for name in "abcdef"]
        self.assertEqual(settled(six, [0] * 6), [0] + [0] * 6)
        self.assertEqual(settled(six + ["in g 1"], [0] * 7), [-1007])
        self.assertEqual(settled(six + ["out g 1"], [0] * 6), [-1007])

    def test_things_have_their_numbers_in_order(self):
        lines = ["in z 1", "out a 2", "in m 3", "rule and z = 1 m = 3 -> a = 2"]
        self.assertEqual(settled(lines, [1, 0, 3]), [1, 1, 2, 3])

    def test_the_digit_of_a_thing(self):
        for kind in ("in", "out"):
            self.assertEqual(settled([f"{kind} a 0"], [0]), [-1001])
            for top in (1, 2, 3):
                self.assertEqual(settled([f"{kind} a {top}"], [top]), [0, top])
                self.assertEqual(settled([f"{kind} a {top}"], [top + 1]), [-34])
            for word in ("4", "9", "01", "11", "-1", "a", "=", "1?"):
                self.assertEqual(settled([f"{kind} a {word}"], [0]), [-1001], word)

    def test_the_number_of_words(self):
        for line in ("in", "out", "in a", "out 1", "in a 1 1", "out a 1 rule", "in out a 1"):
            self.assertEqual(settled([line], [0]), [-1001], line)

    def test_a_name_of_8_letters_and_of_9(self):
        self.assertEqual(settled(["in abcdefgh 1"], [1]), [0, 1])
        self.assertEqual(settled(["in zzzzzzzz 1"], [1]), [0, 1])
        self.assertEqual(settled(["in abcdefghi 1"], [1]), [-1001])
        self.assertEqual(settled(["in a 1", "in z 1"], [1, 0]), [0, 1, 0])

    def test_signs_that_no_name_has(self):
        for name in ("A", "aB", "a1", "1", "a-b", "a_b", "->", "=", "?", "a`", "a{", "a.b"):
            self.assertEqual(settled([f"in {name} 1"], [0]), [-1001], name)

    def test_words_that_no_name_is(self):
        for name in ("in", "out", "rule", "never", "and", "or", "not"):
            self.assertEqual(settled([f"in {name} 1"], [0]), [-1001], name)
            self.assertEqual(settled([f"out {name} 1"], [0]), [-1001], name)
            self.assertEqual(settled([f"out {name}s 1"], [0]), [0, 0], name)

    def test_a_name_told_twice(self):
        self.assertEqual(settled(["in a 1", "in a 1"], [0, 0]), [-1002])
        self.assertEqual(settled(["in a 1", "in b 1", "out a 2"], [0, 0, 0]), [-1003])
        self.assertEqual(settled(["in a 1", "in aa 1", "in ab 1"], [0, 0, 0]), [0, 0, 0, 0])


class Entries(unittest.TestCase):
    def test_sixteen_entries_and_seventeen(self):
        rule = "rule a = 0 -> a = 1"
        ban = "never a = 0"
        self.assertEqual(settled(["out a 1"] + [rule] * 16, [0]), [1, 1])
        self.assertEqual(settled(["out a 1"] + [ban] * 16, [0]), [0, 0])
        self.assertEqual(settled(["out a 1"] + [ban] * 15 + [rule], [0]), [1, 1])
        self.assertEqual(settled(["out a 1"] + [rule] * 17, [0]), [-1018])
        self.assertEqual(settled(["out a 1"] + [ban] * 17, [0]), [-1018])
        self.assertEqual(settled(["out a 1"] + [ban, rule] * 8 + [ban], [0]), [-1018])
        self.assertEqual(settled(["out a 1"] + [ban, rule] * 8 + [rule], [0]), [-1018])

    def test_things_are_no_entries(self):
        lines = [f"out {name} 1" for name in "abcdef"] + ["never a = 0"] * 15 + ["rule a = 0 -> a = 1"]
        self.assertEqual(settled(lines, [0] * 6), [1, 1, 0, 0, 0, 0, 0])

    def test_a_digit_that_is_none_of_the_values(self):
        for line in ("rule a = 2 -> a = 1", "rule a < 2 -> a = 1", "rule a > 3 -> a = 0", "rule a = 0 -> a = 2",
                     "rule a = 0 -> a = 4", "rule a = 00 -> a = 1", "rule a = 0 -> a = 01", "never a = 2",
                     "never not a = 9", "never and a = 0 a = 2"):
            self.assertEqual(settled(["out a 1", line], [0]), [-1002], line)
        self.assertEqual(settled(["out a 2", "rule a < 2 -> a = 2"], [0]), [1, 2])
        self.assertEqual(settled(["out a 3", "in b 1", "rule b = 3 -> a = 3"], [0, 0]), [-1003])
        self.assertEqual(settled(["in a 3", "out b 1", "rule a = 3 -> b = 3"], [3, 0]), [-1003])

    def test_a_rule_for_a_thing_that_is_in(self):
        self.assertEqual(settled(["in a 1", "rule a = 0 -> a = 1"], [0]), [-1002])
        self.assertEqual(settled(["in a 1", "out b 1", "rule b = 0 -> a = 1"], [0, 0]), [-1003])
        self.assertEqual(settled(["in a 1", "out b 1", "rule a = 0 -> b = 1"], [0, 0]), [1, 0, 1])

    def test_a_thing_that_no_line_before_told(self):
        self.assertEqual(settled(["rule a = 0 -> a = 1", "out a 1"], [0]), [-1001])
        self.assertEqual(settled(["out a 1", "rule b = 0 -> a = 1", "in b 1"], [0, 0]), [-1002])
        self.assertEqual(settled(["in a 1", "rule a = 0 -> b = 1", "out b 1"], [0, 0]), [-1002])
        self.assertEqual(settled(["in a 1", "never b = 0", "out b 1"], [0, 0]), [-1002])
        self.assertEqual(settled(["in a 1", "never or a = 0 b = 0", "out b 1"], [0, 0]), [-1002])

    def test_rules_of_another_form(self):
        for line in ("rule", "rule ->", "rule -> a = 1", "rule a = 0", "rule a = 0 ->", "rule a = 0 -> a",
                     "rule a = 0 -> a =", "rule a = 0 a = 1", "rule a = 0 = a = 1", "rule a = 0 -> a < 1",
                     "rule a = 0 -> a > 0", "rule a = 0 -> a -> 1", "rule a = 0 -> a = 1 a = 1",
                     "rule a = 0 -> not a = 1", "rule a = 0 -> a = 1 -> a = 1", "rule a = 0 -> a = 1 1",
                     "rule rule a = 0 -> a = 1", "rule a = 0 - a = 1", "rule a = 0 => a = 1", "a = 0 -> a = 1"):
            self.assertEqual(settled(["out a 1", line], [0]), [-1002], line)

    def test_bans_of_another_form(self):
        for line in ("never", "never a", "never a =", "never = 0", "never 0 = a", "never a = 0 -> a = 1",
                     "never never a = 0", "never a = a", "never a 0 =", "never a == 0", "never a <> 0", "never a -> 0"):
            self.assertEqual(settled(["out a 1", line], [0]), [-1002], line)


class ConditionForm(unittest.TestCase):
    def assert_none(self, condition):
        self.assertEqual(settled(["out a 1", f"rule {condition} -> a = 1"], [0]), [-1002], condition)
        self.assertEqual(settled(["out a 1", f"never {condition}"], [0]), [-1002], condition)

    def test_conditions_that_end_too_early(self):
        for condition in ("", "not", "not not", "and", "or", "and a = 0", "or a = 0", "and a = 0 not", "a", "a =",
                          "and a = 0 a", "and a = 0 a =", "or or a = 0 a = 0", "not and a = 0", "and and a = 0 a = 0"):
            self.assert_none(condition)

    def test_conditions_with_words_left_over(self):
        for condition in ("a = 0 a = 0", "a = 0 0", "a = 0 not", "a = 0 and", "not a = 0 a = 0", "a = 0 and a = 0",
                          "and a = 0 a = 0 a = 0", "or a = 0 a = 0 or", "not a = 0 not a = 0", "a = 0 or a = 0 a = 0"):
            self.assert_none(condition)

    def test_words_that_are_no_condition(self):
        for condition in ("b = 0", "a ! 0", "a => 0", "= a 0", "a 0 =", "nor a = 0", "not 0", "in = 0", "rule a = 0"):
            self.assert_none(condition)

    def test_as_deep_as_a_line_lets_them_be(self):
        self.assertEqual(len(LONGEST_NOT_RULE), 99)
        self.assertEqual(len(LONGEST_NOT_BAN), 99)
        self.assertEqual(settled(["out a 1", LONGEST_NOT_RULE], [0]), [1, 1])
        self.assertEqual(settled(["out a 1", LONGEST_NOT_RULE.replace("rule not", "rule", 1)], [0]), [0, 0])
        self.assertEqual(settled(["out a 1", LONGEST_NOT_BAN], [0]), [0, 0])
        self.assertEqual(settled(["out a 1", LONGEST_NOT_RULE.replace("not ", "not not ", 1)], [0]), [-1002])

    def test_deep_to_the_left_and_to_the_right(self):
        right = "rule " + "or a = 1 " * 9 + "a = 0 -> a = 1"
        left = "rule " + "or " * 9 + "a = 1 " * 9 + "a = 0 -> a = 1"
        for line in (left, right):
            self.assertEqual(len(line), 100)
            self.assertEqual(settled(["out a 1", line], [0]), [1, 1])
            self.assertEqual(settled(["out a 1", line.replace("or", "and")[:100]], [0]), [-1002])
        both = "rule " + "and " * 7 + "a = 0 " * 8 + "-> a = 1"
        self.assertEqual(settled(["out a 1", both], [0]), [1, 1])
        self.assertEqual(settled(["out a 1", both.replace("a = 0 ->", "a = 1 ->")], [0]), [0, 0])


if __name__ == "__main__":
    unittest.main()
