"""Point 3: which rule decides a thing in a state."""

import unittest

from houserulesdesk.passes import settle, why
from tests.helpers import bytes_of, decided, told

LAMP = ["in dark 1", "out lamp 1", "rule dark = 1 -> lamp = 1", "rule dark = 0 -> lamp = 0"]
BEYOND = 4294967295


class TheRuleThatDecides(unittest.TestCase):
    def test_one_rule(self):
        self.assertEqual(decided(0, ["out a 1", "rule a = 0 -> a = 1"], [0]), [0])

    def test_the_state_tells_which(self):
        self.assertEqual(decided(1, LAMP, [1, 0]), [0])
        self.assertEqual(decided(1, LAMP, [0, 0]), [1])

    def test_each_thing_has_its_own(self):
        lines = [
            "out a 1", "out b 1", "out c 1",
            "rule a = 0 -> c = 1", "rule a = 0 -> b = 1", "rule a = 0 -> a = 1",
        ]
        self.assertEqual([decided(i, lines, [0, 0, 0]) for i in range(3)], [[2], [1], [0]])

    def test_six_things(self):
        lines = [f"out {name} 1" for name in "abcdef"] + [f"rule a = 0 -> {name} = 1" for name in "fedcba"]
        self.assertEqual([decided(i, lines, [0] * 6) for i in range(6)], [[5], [4], [3], [2], [1], [0]])
        self.assertEqual(decided(6, lines, [0] * 6), [-2])

    def test_of_two_that_hold_the_first(self):
        lines = ["in a 1", "out b 3", "rule a = 1 -> b = 2", "rule a = 1 -> b = 3"]
        self.assertEqual(decided(1, lines, [1, 0]), [0])
        self.assertEqual(decided(1, lines, [1, 3]), [0])

    def test_the_second_where_the_first_does_not_hold(self):
        lines = ["in a 3", "out b 1", "rule a = 1 -> b = 1", "rule a > 1 -> b = 1", "rule a > 2 -> b = 0"]
        self.assertEqual([decided(1, lines, [a, 0]) for a in range(4)], [[-6], [0], [1], [1]])

    def test_a_rule_that_changes_nothing_decides_too(self):
        lines = ["out a 1", "rule a = 1 -> a = 1", "rule a = 1 -> a = 0"]
        self.assertEqual(decided(0, lines, [1]), [0])
        self.assertEqual(decided(1, LAMP, [1, 1]), [0])
        self.assertEqual(decided(1, LAMP, [0, 0]), [1])

    def test_the_last_of_sixteen_entries(self):
        lines = ["out a 1"] + ["rule a = 1 -> a = 0"] * 15 + ["rule a = 0 -> a = 1"]
        self.assertEqual(decided(0, lines, [0]), [15])
        self.assertEqual(decided(0, lines, [1]), [0])
        bans = ["out a 1"] + ["never a = 0"] * 15 + ["rule a = 0 -> a = 1"]
        self.assertEqual(decided(0, bans, [0]), [15])

    def test_conditions_of_every_form(self):
        lines = [
            "in a 3", "in b 1", "out z 1",
            "rule and a < 1 b = 1 -> z = 1", "rule not or a > 0 b = 1 -> z = 1", "rule or a = 3 not b = 0 -> z = 1",
        ]
        found = [decided(2, lines, [a, b, 0]) for a in range(4) for b in range(2)]
        self.assertEqual(found, [[1], [0], [-6], [2], [-6], [2], [2], [2]])

    def test_things_told_among_the_entries(self):
        lines = ["out a 1", "rule a = 0 -> a = 1", "out b 1", "never a = 0", "rule a = 0 -> b = 1"]
        self.assertEqual(decided(0, lines, [0, 0]), [0])
        self.assertEqual(decided(1, lines, [0, 0]), [2])

    def test_blanks_and_a_last_line_without_an_end(self):
        self.assertEqual(why(0, bytes_of("out  a 1\n  never a = 0 \nrule   a = 0 ->  a = 1"), [0]), [1])


class BansAreCounted(unittest.TestCase):
    LINES = [
        "in a 1", "out b 1", "out c 1",
        "never a = 1", "rule a = 1 -> b = 1", "never b = 1", "never c = 1", "rule a = 1 -> c = 1", "never a = 0",
    ]

    def test_with_the_rules(self):
        self.assertEqual(decided(1, self.LINES, [1, 0, 0]), [1])
        self.assertEqual(decided(2, self.LINES, [1, 0, 0]), [4])

    def test_whether_broken_or_not(self):
        self.assertEqual(decided(1, self.LINES, [1, 1, 1]), [1])
        self.assertEqual(decided(2, self.LINES, [1, 1, 1]), [4])

    def test_but_decide_nothing(self):
        self.assertEqual([decided(i, self.LINES, [0, 1, 1]) for i in range(3)], [[-6]] * 3)
        self.assertEqual(decided(0, ["out a 1", "never a = 0", "never a = 1"], [0]), [-6])


class TheStateAsItWasHandedIn(unittest.TestCase):
    def test_not_as_it_is_behind_a_pass(self):
        lines = ["out n 3", "rule n = 0 -> n = 1", "rule n = 1 -> n = 2", "rule n = 2 -> n = 3"]
        self.assertEqual([decided(0, lines, [n]) for n in range(4)], [[0], [1], [2], [-6]])

    def test_not_by_things_that_a_pass_sets(self):
        lines = ["out a 1", "out b 1", "rule a = 0 -> a = 1", "rule a = 1 -> b = 1"]
        self.assertEqual(decided(1, lines, [0, 0]), [-6])
        self.assertEqual(decided(1, lines, [1, 0]), [1])

    def test_a_house_that_goes_on_for_ever(self):
        lines = ["out a 1", "rule a = 0 -> a = 1", "rule a = 1 -> a = 0"]
        self.assertEqual([decided(0, lines, [a]) for a in range(2)], [[0], [1]])

    def test_a_thing_that_is_decided_is_settled_as_its_rule_says(self):
        after = settle(told(*LAMP), [1, 0])[1:]
        self.assertEqual(after, [1, 1])
        self.assertEqual(decided(1, LAMP, after), [0])


class NoRuleDecides(unittest.TestCase):
    def test_a_thing_that_is_in(self):
        self.assertEqual(decided(0, LAMP, [1, 0]), [-6])
        self.assertEqual(decided(0, ["in a 1"], [1]), [-6])

    def test_a_thing_that_no_rule_sets(self):
        self.assertEqual(decided(0, ["out a 1"], [0]), [-6])
        self.assertEqual(decided(0, ["out a 1", "out b 1", "rule a = 0 -> b = 1"], [0, 0]), [-6])

    def test_no_condition_of_its_rules_holds(self):
        lines = ["in a 3", "out b 1", "rule a = 1 -> b = 1", "rule a > 2 -> b = 0"]
        self.assertEqual([decided(1, lines, [a, 0]) for a in range(4)], [[-6], [0], [-6], [1]])

    def test_rules_that_hold_for_other_things(self):
        lines = ["out a 1", "out b 1", "rule a = 0 -> a = 1", "rule a = 1 -> b = 1"]
        self.assertEqual([decided(i, lines, [0, 0]) for i in range(2)], [[0], [-6]])


class NoThing(unittest.TestCase):
    def test_the_number_of_things_and_more(self):
        self.assertEqual(decided(1, LAMP, [0, 0]), [1])
        for i in (2, 3, 5, 6, 255, 256, 65536, 2147483647, 2147483648, 4294967294, BEYOND):
            self.assertEqual(decided(i, LAMP, [0, 0]), [-2], i)

    def test_a_house_without_things(self):
        for i in (0, 1, BEYOND):
            self.assertEqual(why(i, [], []), [-2], i)

    def test_a_house_without_entries(self):
        self.assertEqual(decided(0, ["out a 1"], [0]), [-6])
        self.assertEqual(decided(1, ["out a 1"], [0]), [-2])

    def test_bans_are_no_things(self):
        lines = ["out a 1", "never a = 0", "rule a = 0 -> a = 1"]
        for i in (1, 2, BEYOND):
            self.assertEqual(decided(i, lines, [0]), [-2], i)


if __name__ == "__main__":
    unittest.main()
