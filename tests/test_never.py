"""Point 4: which ban is broken in a state."""

import unittest

from houserulesdesk.passes import never, settle
from tests.helpers import broken, bytes_of, told

DOOR = ["in night 1", "out lamp 1", "out door 2", "never and night = 1 door = 2", "never and lamp = 0 door > 0"]


class TheBanThatIsBroken(unittest.TestCase):
    def test_one_ban(self):
        self.assertEqual(broken(["in a 1", "never a = 0"], [0]), [0])
        self.assertEqual(broken(["in a 1", "never a = 0"], [1]), [-6])

    def test_the_state_tells_which(self):
        self.assertEqual(broken(DOOR, [1, 1, 2]), [0])
        self.assertEqual(broken(DOOR, [0, 0, 2]), [1])
        self.assertEqual(broken(DOOR, [1, 0, 1]), [1])
        self.assertEqual(broken(DOOR, [0, 1, 2]), [-6])

    def test_of_two_that_are_broken_the_first(self):
        self.assertEqual(broken(DOOR, [1, 0, 2]), [0])
        self.assertEqual(broken(["in a 1", "never a = 0", "never a = 0"], [0]), [0])
        self.assertEqual(broken(["in a 3", "never a = 3", "never a > 1", "never a > 0"], [2]), [1])

    def test_a_later_one_where_the_first_is_not_broken(self):
        lines = ["in a 3", "never a = 0", "never a = 1", "never a = 2", "never a = 3"]
        self.assertEqual([broken(lines, [a]) for a in range(4)], [[0], [1], [2], [3]])

    def test_bans_on_things_that_are_out_and_on_those_that_are_in(self):
        lines = ["in a 1", "out b 1", "never a = 1", "never b = 1"]
        found = [broken(lines, [a, b]) for a in range(2) for b in range(2)]
        self.assertEqual(found, [[-6], [1], [0], [0]])

    def test_a_ban_that_is_always_broken_and_one_that_never_is(self):
        lines = ["in a 3", "never a < 0", "never a > 3", "never or a = 2 not a = 2"]
        self.assertEqual([broken(lines, [a]) for a in range(4)], [[2]] * 4)

    def test_things_told_among_the_entries(self):
        lines = ["out a 1", "never a = 1", "out b 1", "rule a = 0 -> b = 1", "never b = 1"]
        self.assertEqual(broken(lines, [0, 1]), [2])
        self.assertEqual(broken(lines, [1, 1]), [0])

    def test_blanks_and_a_last_line_without_an_end(self):
        self.assertEqual(never(bytes_of("  out  a 1\n rule a = 0 -> a = 1 \nnever   a = 0"), [0]), [1])
        self.assertEqual(never(bytes_of("out a 1\nrule a = 0 -> a = 1\n  never a  = 0  \n"), [0]), [1])


class RulesAreCounted(unittest.TestCase):
    LINES = [
        "in a 1", "out b 1", "out c 1",
        "rule a = 1 -> b = 1", "rule a = 0 -> b = 0", "never b = 1", "rule b = 1 -> c = 1", "never c = 1",
    ]

    def test_ahead_of_a_ban_and_between_bans(self):
        self.assertEqual(broken(self.LINES, [0, 1, 0]), [2])
        self.assertEqual(broken(self.LINES, [0, 0, 1]), [4])
        self.assertEqual(broken(self.LINES, [1, 1, 1]), [2])

    def test_whether_they_hold_or_not(self):
        self.assertEqual([broken(self.LINES, [a, 0, 1]) for a in range(2)], [[4], [4]])
        self.assertEqual([broken(self.LINES, [a, 1, 0]) for a in range(2)], [[2], [2]])

    def test_behind_a_ban_they_count_for_nothing(self):
        self.assertEqual(broken(["out a 1", "never a = 0", "rule a = 0 -> a = 1"], [0]), [0])

    def test_but_are_no_bans(self):
        self.assertEqual(broken(self.LINES, [1, 0, 0]), [-6])
        self.assertEqual(broken(["out a 1", "rule a = 0 -> a = 1", "rule a = 0 -> a = 0"], [0]), [-6])

    def test_the_last_of_sixteen_entries(self):
        rules = ["out a 1"] + ["rule a = 0 -> a = 1"] * 15 + ["never a = 0"]
        self.assertEqual([broken(rules, [a]) for a in range(2)], [[15], [-6]])
        bans = ["out a 1"] + ["never a = 1"] * 15 + ["never a = 0"]
        self.assertEqual([broken(bans, [a]) for a in range(2)], [[15], [0]])
        mixed = ["out a 1"] + ["rule a = 0 -> a = 1", "never a = 1", "never a > 0"] * 5 + ["never a = 0"]
        self.assertEqual([broken(mixed, [a]) for a in range(2)], [[15], [1]])

    def test_a_seventeenth_is_refused_though_an_earlier_one_is_broken(self):
        self.assertEqual(broken(["out a 1"] + ["never a = 0"] * 17, [0]), [-1018])


class NoBanIsBroken(unittest.TestCase):
    def test_a_house_without_things(self):
        self.assertEqual(never([], []), [-6])

    def test_a_house_without_entries(self):
        self.assertEqual(broken(["in a 1", "out b 3"], [1, 2]), [-6])

    def test_a_house_without_bans(self):
        lines = ["in a 1", "out b 3", "rule a = 1 -> b = 3", "rule b = 0 -> b = 1"]
        self.assertEqual([broken(lines, [a, b]) for a in range(2) for b in range(4)], [[-6]] * 8)

    def test_every_condition_fails(self):
        lines = ["in a 3", "never a = 3", "never a < 1", "never and a > 0 a > 1"]
        self.assertEqual([broken(lines, [a]) for a in range(4)], [[1], [-6], [2], [0]])

    def test_every_condition_fails_though_a_rule_holds(self):
        lines = ["out a 1", "never a = 1", "rule a = 0 -> a = 1", "never a > 0"]
        self.assertEqual(broken(lines, [0]), [-6])

    def test_64_states(self):
        lines = ["in a 3", "in b 3", "in c 3", "never and a = 3 and b = 3 c = 3"]
        states = [[a, b, c] for a in range(4) for b in range(4) for c in range(4)]
        self.assertEqual([broken(lines, state) for state in states], [[-6]] * 63 + [[0]])


class TheStateAsItWasHandedIn(unittest.TestCase):
    def test_not_as_it_is_behind_a_pass(self):
        lines = ["out n 3", "rule n = 0 -> n = 1", "never n = 1", "rule n = 1 -> n = 2", "never n = 2"]
        self.assertEqual([broken(lines, [n]) for n in range(4)], [[-6], [1], [3], [-6]])

    def test_not_as_it_is_when_it_is_settled(self):
        lines = ["in dark 1", "out lamp 1", "rule dark = 1 -> lamp = 1", "never lamp = 1", "never and dark = 1 lamp = 0"]
        self.assertEqual(broken(lines, [1, 0]), [2])
        after = settle(told(*lines), [1, 0])[1:]
        self.assertEqual(after, [1, 1])
        self.assertEqual(broken(lines, after), [1])

    def test_a_house_that_goes_on_for_ever(self):
        lines = ["out a 1", "never a = 1", "rule a = 0 -> a = 1", "rule a = 1 -> a = 0"]
        self.assertEqual(settle(told(*lines), [0]), [-41])
        self.assertEqual([broken(lines, [a]) for a in range(2)], [[-6], [0]])


class Conditions(unittest.TestCase):
    def assert_broken(self, condition, expected):
        """In which states of a, from 0 to 3, and b, from 0 to 1, the ban of that condition is broken."""
        lines = ["in a 3", "in b 1", f"never {condition}"]
        found = {(a, b): broken(lines, [a, b]) for a in range(4) for b in range(2)}
        self.assertEqual([state for state in found if found[state] == [0]], expected)
        self.assertEqual([found[state] for state in found if state not in expected], [[-6]] * (8 - len(expected)))

    def test_comparisons(self):
        self.assert_broken("a = 2", [(2, 0), (2, 1)])
        self.assert_broken("a < 2", [(0, 0), (0, 1), (1, 0), (1, 1)])
        self.assert_broken("a > 2", [(3, 0), (3, 1)])
        self.assert_broken("a < 0", [])
        self.assert_broken("a > 3", [])

    def test_not_and_or(self):
        self.assert_broken("not a > 0", [(0, 0), (0, 1)])
        self.assert_broken("and a = 1 b = 1", [(1, 1)])
        self.assert_broken("or a = 1 b = 1", [(0, 1), (1, 0), (1, 1), (2, 1), (3, 1)])

    def test_within_one_another(self):
        self.assert_broken("and not a = 1 b = 1", [(0, 1), (2, 1), (3, 1)])
        self.assert_broken("and a = 1 not b = 1", [(1, 0)])
        self.assert_broken("not or a > 0 b = 1", [(0, 0)])
        self.assert_broken("or and a = 1 b = 1 a = 3", [(1, 1), (3, 0), (3, 1)])
        self.assert_broken("and or a = 1 b = 1 a < 2", [(0, 1), (1, 0), (1, 1)])
        self.assert_broken("and a < 2 or a = 1 b = 1", [(0, 1), (1, 0), (1, 1)])
        self.assert_broken("and not and a > 0 b = 0 not and a < 2 b = 1", [(0, 0), (2, 1), (3, 1)])

    def test_as_deep_as_a_line_lets_them_be(self):
        self.assert_broken("not " * 22 + "a = 2", [(2, 0), (2, 1)])
        self.assert_broken("not " * 21 + "a > 0", [(0, 0), (0, 1)])
        self.assert_broken("and a < 3 " * 8 + "b = 1", [(0, 1), (1, 1), (2, 1)])
        self.assert_broken("or a = 3 " * 9 + "b = 1", [(0, 1), (1, 1), (2, 1), (3, 0), (3, 1)])
        self.assert_broken("and " * 8 + "a < 3 " * 8 + "b = 1", [(0, 1), (1, 1), (2, 1)])
        self.assert_broken("or " * 9 + "a = 3 " * 9 + "b = 1", [(0, 1), (1, 1), (2, 1), (3, 0), (3, 1)])
        self.assert_broken("not or a = 3 " * 6 + "not b = 1", [(0, 0), (1, 0), (2, 0)])

    def test_a_line_of_100_bytes_and_one_of_101(self):
        line = "never " + "not " * 22 + "a = 0"
        self.assertEqual(broken(["in a 1", line.ljust(100)], [0]), [0])
        self.assertEqual(broken(["in a 1", line.rjust(100)], [0]), [0])
        self.assertEqual(broken(["in a 1", line.ljust(101)], [0]), [-1002])
        self.assertEqual(broken(["in a 1", "never " + "not " * 23 + "a = 0"], [0]), [-1002])

    def test_words_that_are_no_condition(self):
        for words in (
            "", "a", "a =", "a = 4", "a = 0 b = 0", "c = 0", "not", "not a", "and a = 0", "and a = 0 b",
            "or a = 0 b = 0 a = 1", "a = 0 and b = 0", "a=0", "a = 0 -> a = 1", "b = 2", "a == 0", "a > = 0", "a = b",
        ):
            self.assertEqual(broken(["out a 3", "in b 1", "never a = 0", f"never {words}"], [0, 0]), [-1004], words)


if __name__ == "__main__":
    unittest.main()
