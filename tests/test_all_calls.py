"""Point 1 for settle, why and never alike, and what holds over all three of them."""

import unittest

from houserulesdesk.passes import never, settle, why
from tests.helpers import broken, bytes_of, decided, long_text, settled, told

TOO_MANY = ["out a 3", "in b 3", "in c 3", "in d 1", "rule a = 0 -> a = 1", "never a = 0"]
BEYOND = 4294967295


class PointOneComesFirst(unittest.TestCase):
    """In the house, a rule decides thing 0 where a is 0, none decides thing 1, and there are no more things."""

    HOUSE = ["out a 1", "in b 1", "rule a < 1 -> a = 1", "never a = 0"]

    def answers(self, t, state):
        return [settle(t, state), never(t, state)] + [why(i, t, state) for i in (0, 1, 2, BEYOND)]

    def assert_refused(self, t, state, refusal):
        """With a ban that is broken, or would be, and with the same ban turned about."""
        turned = bytes_of(bytes(t).decode("latin-1").replace("never a = 0", "never a > 0"))
        self.assertEqual(self.answers(t, state) + self.answers(turned, state), [[refusal]] * 12)

    def test_without_a_refusal(self):
        for t in (told(*self.HOUSE), long_text(self.HOUSE)):
            self.assertEqual(self.answers(t, [0, 0]), [[1, 1, 0], [1], [0], [-6], [-2], [-2]])
            self.assertEqual(self.answers(t, [1, 0]), [[0, 1, 0], [-6], [-6], [-6], [-2], [-2]])

    def test_too_long(self):
        t = long_text(self.HOUSE)
        self.assertEqual(len(t), 1200)
        self.assert_refused(t + bytes_of("never a = 0"), [0, 0], -22)
        self.assert_refused(t + [32], [0, 0], -22)
        self.assert_refused(t + [10], [0, 0], -22)

    def test_too_long_ahead_of_the_others(self):
        self.assert_refused([10] * 1200, [], -1001)
        self.assert_refused([10] * 1201, [], -22)
        self.assert_refused([255] * 2000, [255] * 20, -22)
        self.assert_refused(long_text(["no"]), [], -1001)
        self.assert_refused(long_text(["no"]) + [32], [], -22)
        self.assert_refused(long_text(TOO_MANY), [0] * 4, -28)
        self.assert_refused(long_text(TOO_MANY) + bytes_of("never a = 0"), [0] * 4, -22)
        self.assert_refused(long_text(self.HOUSE), [2, 0], -34)
        self.assert_refused(long_text(self.HOUSE) + bytes_of("never a = 0"), [2, 0], -22)

    def test_a_line_that_says_nothing(self):
        self.assert_refused(told(*self.HOUSE, "no"), [0, 0], -1005)
        self.assert_refused(told(*self.HOUSE, "", "no"), [0, 0], -1005)
        self.assert_refused(told("never a = 0", *self.HOUSE), [0, 0], -1001)
        self.assert_refused(told("rule a = 0 -> a = 1", *self.HOUSE), [0, 0], -1001)
        self.assert_refused(told(*self.HOUSE, "never c = 0", "in c 1"), [0, 0, 0], -1005)
        self.assert_refused(told(*self.HOUSE, "rule a = 0 -> b = 1"), [0, 0], -1005)
        self.assert_refused(told(*self.HOUSE, "rule a = 0 -> a = 2"), [0, 0], -1005)
        self.assert_refused([10], [], -1001)

    def test_a_line_that_says_nothing_ahead_of_the_others(self):
        self.assert_refused(told(*TOO_MANY, "no"), [0] * 4, -1007)
        self.assert_refused(told("no", *TOO_MANY), [0] * 4, -1001)
        self.assert_refused(told(*TOO_MANY, "no"), [9], -1007)
        self.assert_refused(told(*self.HOUSE, "no"), [2, 0], -1005)
        self.assert_refused(told(*self.HOUSE, "no"), [], -1005)

    def test_too_many_states(self):
        self.assert_refused(told(*TOO_MANY), [0] * 4, -28)
        self.assert_refused(told("in a 2", "in b 2", "in c 1", "in d 1", "in e 1", "never a = 0"), [0] * 5, -28)
        self.assert_refused(told(*[f"out {name} 3" for name in "abcdef"], "never a = 0"), [0] * 6, -28)

    def test_64_states(self):
        lines = ["out a 3", "in b 3", "in c 3", "rule a = 3 -> a = 1", "never a = 3"]
        self.assertEqual(settled(lines, [3, 3, 3]), [1, 1, 3, 3])
        self.assertEqual([decided(i, lines, [3, 3, 3]) for i in range(4)], [[0], [-6], [-6], [-2]])
        self.assertEqual(broken(lines, [3, 3, 3]), [1])

    def test_too_many_states_ahead_of_no_state(self):
        self.assert_refused(told(*TOO_MANY), [], -28)
        self.assert_refused(told(*TOO_MANY), [4, 0, 0, 0], -28)
        self.assert_refused(told(*TOO_MANY), [0] * 20, -28)

    def test_no_state(self):
        for state in ([], [0], [0, 0, 0], [0] * 20, [2, 0], [0, 2], [255, 255]):
            self.assert_refused(told(*self.HOUSE), state, -34)
        self.assert_refused([], [0], -34)


class WhatHolds(unittest.TestCase):
    """Seen by what the calls answer alone, in every state of each house."""

    HOUSES = (
        [],
        ["in a 3", "out b 3"],
        ["in a 3", "out b 1", "never a > 1", "never b = 1"],
        ["in dark 1", "out lamp 1", "rule dark = 1 -> lamp = 1", "never lamp = 1", "rule dark = 0 -> lamp = 0"],
        # Two rules for one thing.
        ["in a 1", "out b 3", "rule a = 1 -> b = 2", "rule a = 1 -> b = 3", "rule b = 3 -> b = 0"],
        # A rule that undoes its own condition.
        ["out a 3", "never a = 3", "rule a = 0 -> a = 1", "rule a = 1 -> a = 2"],
        # Things that change about for ever, but not from each state.
        [
            "out a 1", "out b 1", "in c 1", "never a = 1",
            "rule c = 0 -> a = 1", "rule b = 0 -> a = 0", "rule b = 1 -> a = 1",
            "rule a = 0 -> b = 0", "rule a = 1 -> b = 1",
        ],
        # A pass by things set already.
        ["out a 1", "out b 1", "out c 1", "rule a = 0 -> a = 1", "rule a = 1 -> b = 1", "rule b = 1 -> c = 1"],
        ["out a 3", "out b 3", "in c 3", "rule a < 3 -> a = 3", "rule a = 3 -> b = 0", "rule c = 3 -> b = 2"],
    )

    def tops(self, lines):
        return [int(line[-1]) for line in lines if line.startswith(("in ", "out "))]

    def states(self, lines):
        states = [[]]
        for top in self.tops(lines):
            states = [state + [value] for state in states for value in range(top + 1)]
        return states

    def settable(self, lines):
        """For each thing, whether it is out and a rule sets it."""
        set_by_rules = [line.split()[-3] for line in lines if line.startswith("rule ")]
        return [line.startswith("out ") and line.split()[1] in set_by_rules
                for line in lines if line.startswith(("in ", "out "))]

    def after_pass(self, lines, state):
        """The state behind one pass, by what why tells of each thing."""
        entries = [line for line in lines if line.startswith(("rule ", "never "))]
        after = list(state)
        for i in range(len(state)):
            number = decided(i, lines, state)[0]
            if number >= 0:
                after[i] = int(entries[number][-1])
        return after

    def cases(self):
        for lines in self.HOUSES:
            for state in self.states(lines):
                yield lines, state, settled(lines, state)

    def test_some_settle_and_some_go_on(self):
        firsts = {found[0] for lines, state, found in self.cases()}
        self.assertEqual(firsts, {-41, 0, 1, 2, 3})

    def test_settled_again_nothing_happens(self):
        for lines, state, found in self.cases():
            if found[0] >= 0:
                self.assertEqual(settled(lines, found[1:]), [0] + found[1:], (lines, state))

    def test_settled_no_rule_changes_anything(self):
        # So each thing that a rule decides is as that rule says.
        for lines, state, found in self.cases():
            if found[0] >= 0:
                self.assertEqual(self.after_pass(lines, found[1:]), found[1:], (lines, state))

    def test_it_takes_as_many_passes_as_told(self):
        for lines, state, found in self.cases():
            if found[0] >= 0:
                now = state
                for turn in range(found[0]):
                    self.assertNotEqual(self.after_pass(lines, now), now, (lines, state))
                    now = self.after_pass(lines, now)
                self.assertEqual(now, found[1:], (lines, state))

    def test_told_that_it_goes_on_for_ever_it_does(self):
        for lines, state, found in self.cases():
            if found == [-41]:
                now = state
                for turn in range(len(self.states(lines)) + 1):
                    self.assertNotEqual(self.after_pass(lines, now), now, (lines, state))
                    now = self.after_pass(lines, now)

    def test_things_that_no_rule_may_set_stay(self):
        for lines, state, found in self.cases():
            for at, settable in enumerate(self.settable(lines)):
                if found[0] >= 0 and not settable:
                    self.assertEqual(found[1 + at], state[at], (lines, state))

    def test_bans_change_nothing(self):
        for lines, state, found in self.cases():
            self.assertEqual(settled([line for line in lines if not line.startswith("never ")], state), found)

    def test_rules_break_no_ban(self):
        for lines, state, found in self.cases():
            bans = [line for line in lines if not line.startswith("rule ")]
            self.assertEqual(broken(lines, state)[0] < 0, broken(bans, state)[0] < 0, (lines, state))

    def test_a_ban_is_broken_where_a_rule_of_its_condition_decides(self):
        for lines, state, found in self.cases():
            if len(self.states(lines)) > 32:
                continue
            as_rules = ["out zz 1"] + [
                line.replace("never", "rule") + " -> zz = 1" if line.startswith("never ") else line for line in lines
            ]
            self.assertEqual(broken(lines, state), decided(0, as_rules, [0] + state), (lines, state))


if __name__ == "__main__":
    unittest.main()
