"""Point 2: by how many passes a house settles, in which state, or that it goes on for ever."""

import unittest

from tests.helpers import settled

LAMP = ["in dark 1", "out lamp 1", "rule dark = 1 -> lamp = 1", "rule dark = 0 -> lamp = 0"]
CHAIN = [
    "in a 1", "out b 1", "out c 1", "out d 1",
    "rule a = 1 -> b = 1", "rule b = 1 -> c = 1", "rule c = 1 -> d = 1",
]
# A number of six binary digits, a the lowest, that grows by one with each pass.
SIX_DIGITS = [
    "out a 1", "out b 1", "out c 1", "out d 1", "out e 1", "out f 1",
    "rule a = 0 -> a = 1",
    "rule and b = 0 a = 1 -> b = 1",
    "rule and c = 0 and a = 1 b = 1 -> c = 1",
    "rule and d = 0 and and a = 1 b = 1 c = 1 -> d = 1",
    "rule and e = 0 and and and a = 1 b = 1 c = 1 d = 1 -> e = 1",
    "rule and f = 0 and and and and a = 1 b = 1 c = 1 d = 1 e = 1 -> f = 1",
]
UP_TO_ALL_ONES = [
    "rule or or or or b = 0 c = 0 d = 0 e = 0 f = 0 -> a = 0",
    "rule and and b = 1 a = 1 or or or c = 0 d = 0 e = 0 f = 0 -> b = 0",
    "rule and and c = 1 and a = 1 b = 1 or or d = 0 e = 0 f = 0 -> c = 0",
    "rule and and d = 1 and and a = 1 b = 1 c = 1 or e = 0 f = 0 -> d = 0",
    "rule and and e = 1 and and and a = 1 b = 1 c = 1 d = 1 f = 0 -> e = 0",
]
ROUND_AND_ROUND = [
    "rule a = 1 -> a = 0",
    "rule a = 1 -> b = 0",
    "rule and a = 1 b = 1 -> c = 0",
    "rule and and a = 1 b = 1 c = 1 -> d = 0",
    "rule and and and a = 1 b = 1 c = 1 d = 1 -> e = 0",
    "rule and and and and a = 1 b = 1 c = 1 d = 1 e = 1 -> f = 0",
]
COUNT = ["out n 3", "rule n = 0 -> n = 1", "rule n = 1 -> n = 2", "rule n = 2 -> n = 3"]


class OrdinaryHouses(unittest.TestCase):
    def test_no_pass(self):
        self.assertEqual(settled(LAMP, [0, 0]), [0, 0, 0])
        self.assertEqual(settled(LAMP, [1, 1]), [0, 1, 1])

    def test_one_pass(self):
        self.assertEqual(settled(LAMP, [1, 0]), [1, 1, 1])
        self.assertEqual(settled(LAMP, [0, 1]), [1, 0, 0])

    def test_several_passes(self):
        self.assertEqual(settled(CHAIN, [1, 0, 0, 0]), [3, 1, 1, 1, 1])
        self.assertEqual(settled(CHAIN, [0, 1, 0, 0]), [2, 0, 1, 1, 1])
        self.assertEqual(settled(CHAIN, [0, 0, 0, 1]), [0, 0, 0, 0, 1])

    def test_passes_of_one_thing(self):
        self.assertEqual([settled(COUNT, [n]) for n in range(4)], [[3, 3], [2, 3], [1, 3], [0, 3]])

    def test_some_states_settle_and_others_go_on(self):
        house = ["in on 1", "out bell 1", "rule and on = 1 bell = 0 -> bell = 1", "rule bell = 1 -> bell = 0"]
        self.assertEqual(settled(house, [0, 0]), [0, 0, 0])
        self.assertEqual(settled(house, [0, 1]), [1, 0, 0])
        self.assertEqual(settled(house, [1, 0]), [-41])
        self.assertEqual(settled(house, [1, 1]), [-41])

    def test_a_way_into_going_on_for_ever(self):
        house = [
            "out n 3", "rule n = 0 -> n = 1", "rule n = 1 -> n = 2", "rule n = 2 -> n = 3", "rule n = 3 -> n = 2",
        ]
        self.assertEqual([settled(house, [n]) for n in range(4)], [[-41]] * 4)

    def test_things_told_behind_rules(self):
        house = ["out a 1", "rule a = 0 -> a = 1", "out b 2", "rule a = 1 -> b = 2"]
        self.assertEqual(settled(house, [0, 0]), [2, 1, 2])


class Conditions(unittest.TestCase):
    def assert_holds(self, condition, tops, expected):
        """Which states the condition holds in, seen by whether it sets the last thing."""
        names = "abcd"[:len(tops)]
        lines = [f"in {name} {top}" for name, top in zip(names, tops)]
        lines += ["out z 1", f"rule {condition} -> z = 1"]
        states = [[]]
        for top in tops:
            states = [state + [value] for state in states for value in range(top + 1)]
        held = [tuple(state) for state in states if settled(lines, state + [0]) == [1] + state + [1]]
        unheld = [tuple(state) for state in states if settled(lines, state + [0]) == [0] + state + [0]]
        self.assertEqual(held, expected)
        self.assertEqual(len(held) + len(unheld), len(states))

    def test_equal(self):
        self.assert_holds("a = 2", [3], [(2,)])

    def test_less(self):
        self.assert_holds("a < 2", [3], [(0,), (1,)])
        self.assert_holds("a < 0", [3], [])

    def test_more(self):
        self.assert_holds("a > 1", [3], [(2,), (3,)])
        self.assert_holds("a > 3", [3], [])

    def test_not(self):
        self.assert_holds("not a = 2", [3], [(0,), (1,), (3,)])
        self.assert_holds("not not a = 2", [3], [(2,)])

    def test_and(self):
        self.assert_holds("and a = 1 b = 1", [1, 1], [(1, 1)])

    def test_or(self):
        self.assert_holds("or a = 1 b = 1", [1, 1], [(0, 1), (1, 0), (1, 1)])

    def test_not_reaches_one_condition_only(self):
        self.assert_holds("and not a = 1 b = 1", [1, 1], [(0, 1)])
        self.assert_holds("and a = 1 not b = 1", [1, 1], [(1, 0)])
        self.assert_holds("not and a = 1 b = 1", [1, 1], [(0, 0), (0, 1), (1, 0)])

    def test_within_one_another_on_either_side(self):
        most = [(0, 0, 1), (0, 1, 1), (1, 0, 1), (1, 1, 0), (1, 1, 1)]
        self.assert_holds("or and a = 1 b = 1 c = 1", [1, 1, 1], most)
        self.assert_holds("and a = 1 or b = 1 c = 1", [1, 1, 1], [(1, 0, 1), (1, 1, 0), (1, 1, 1)])
        self.assert_holds("and or a = 1 b = 1 c = 1", [1, 1, 1], [(0, 1, 1), (1, 0, 1), (1, 1, 1)])


class WhereItBreaks(unittest.TestCase):
    def test_two_rules_for_one_thing_the_first_decides(self):
        house = ["in a 1", "out b 3", "rule a = 1 -> b = 2", "rule a = 1 -> b = 3"]
        self.assertEqual(settled(house, [1, 0]), [1, 1, 2])
        self.assertEqual(settled(house, [1, 3]), [1, 1, 2])

    def test_two_rules_for_one_thing_the_second_where_the_first_does_not_hold(self):
        house = ["in a 1", "out b 3", "rule a = 1 -> b = 2", "rule a < 1 -> b = 3"]
        self.assertEqual(settled(house, [0, 0]), [1, 0, 3])

    def test_a_first_rule_that_changes_nothing_still_decides(self):
        house = ["out a 1", "rule a = 0 -> a = 0", "rule a = 0 -> a = 1"]
        self.assertEqual(settled(house, [0]), [0, 0])

    def test_rules_of_other_things_do_not_decide(self):
        house = ["out a 1", "out b 1", "rule a = 0 -> b = 1", "rule a = 0 -> a = 1"]
        self.assertEqual(settled(house, [0, 0]), [1, 1, 1])

    def test_a_rule_that_undoes_its_own_condition(self):
        self.assertEqual(settled(["out a 1", "rule a = 0 -> a = 1"], [0]), [1, 1])
        both = ["out a 1", "rule a = 0 -> a = 1", "rule a = 1 -> a = 0"]
        self.assertEqual(settled(both, [0]), [-41])
        self.assertEqual(settled(both, [1]), [-41])

    def test_things_that_change_about_for_ever(self):
        swap = [
            "out a 1", "out b 1",
            "rule a = 0 -> b = 0", "rule a = 1 -> b = 1", "rule b = 0 -> a = 0", "rule b = 1 -> a = 1",
        ]
        self.assertEqual(settled(swap, [0, 1]), [-41])
        self.assertEqual(settled(swap, [1, 0]), [-41])
        self.assertEqual(settled(swap, [1, 1]), [0, 1, 1])

    def test_a_ring_of_three(self):
        ring = ["out n 3", "rule n = 0 -> n = 1", "rule n = 1 -> n = 2", "rule n = 2 -> n = 0"]
        self.assertEqual([settled(ring, [n]) for n in range(4)], [[-41], [-41], [-41], [0, 3]])

    def test_a_pass_is_all_at_once(self):
        forwards = ["out a 1", "out b 1", "rule a = 0 -> a = 1", "rule a = 1 -> b = 1"]
        self.assertEqual(settled(forwards, [0, 0]), [2, 1, 1])
        backwards = ["out b 1", "out a 1", "rule a = 1 -> b = 1", "rule a = 0 -> a = 1"]
        self.assertEqual(settled(backwards, [0, 0]), [2, 1, 1])
        passing = ["out a 1", "out b 1", "rule a = 1 -> a = 0", "rule and a = 1 b = 0 -> b = 1"]
        self.assertEqual(settled(passing, [1, 0]), [1, 0, 1])

    def test_a_house_without_rules(self):
        self.assertEqual(settled(["in a 1", "out b 3"], [1, 2]), [0, 1, 2])
        self.assertEqual(settled(["in a 1", "out b 3", "never b = 2"], [1, 2]), [0, 1, 2])

    def test_a_house_without_things(self):
        self.assertEqual(settled([], []), [0])

    def test_bans_set_nothing(self):
        self.assertEqual(settled(["out a 1", "never a = 0", "never not a = 1"], [0]), [0, 0])

    def test_bans_among_the_rules(self):
        house = [
            "in a 1", "out b 1", "out c 1",
            "never a = 1", "rule a = 1 -> b = 1", "never b = 1", "rule b = 1 -> c = 1", "never c = 1",
        ]
        self.assertEqual(settled(house, [1, 0, 0]), [2, 1, 1, 1])

    def test_as_many_passes_as_64_states_let_it_have(self):
        self.assertEqual(settled(SIX_DIGITS + UP_TO_ALL_ONES, [0] * 6), [63] + [1] * 6)
        self.assertEqual(settled(SIX_DIGITS + UP_TO_ALL_ONES, [1] + [0] * 5), [62] + [1] * 6)

    def test_for_ever_through_64_states(self):
        self.assertEqual(settled(SIX_DIGITS + ROUND_AND_ROUND, [0] * 6), [-41])
        self.assertEqual(settled(SIX_DIGITS + ROUND_AND_ROUND, [1] * 6), [-41])


class WhatHolds(unittest.TestCase):
    def test_things_that_no_rule_may_set_stay(self):
        self.assertEqual(settled(["in a 3", "out b 1", "rule a = 2 -> b = 1"], [2, 0]), [1, 2, 1])
        self.assertEqual(settled(["out a 3", "out b 1", "rule a = 2 -> b = 1"], [2, 0]), [1, 2, 1])

    def test_settled_again_nothing_happens(self):
        for house, state in ((LAMP, [1, 0]), (CHAIN, [1, 0, 0, 0]), (COUNT, [0])):
            after = settled(house, state)[1:]
            self.assertEqual(settled(house, after), [0] + after)

    def test_what_a_rule_decides_is_as_it_says(self):
        self.assertEqual(settled(LAMP, [1, 0])[1:], [1, 1])
        self.assertEqual(settled(LAMP, [0, 1])[1:], [0, 0])


if __name__ == "__main__":
    unittest.main()
