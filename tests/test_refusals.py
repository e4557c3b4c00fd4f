"""Point 1, by settle: each refusal alone, and ahead of those that come behind it."""

import unittest

from houserulesdesk.passes import settle
from tests.helpers import bytes_of, settled, told

TOO_MANY = ["in a 3", "in b 3", "in c 3", "in d 1"]
FOR_EVER = ["out a 1", "rule a = 0 -> a = 1", "rule a = 1 -> a = 0"]


def grown(lines, size):
    """The text of the lines, with as many blanks behind as make it that long."""
    text = told(*lines)
    return text + [32] * (size - len(text))


class TextTooLong(unittest.TestCase):
    def test_alone(self):
        lines = ["out a 1".ljust(99)] + ["never a = 0".ljust(99)] * 11
        self.assertEqual(settle(told(*lines), [0]), [0, 0])
        self.assertEqual(settle(told(*lines) + bytes_of("n"), [0]), [-22])
        self.assertEqual(settle(told(*lines) + bytes_of("never a = 0"), [0]), [-22])

    def test_ahead_of_a_line_that_says_nothing(self):
        self.assertEqual(settle(grown(["?"], 1200), []), [-1001])
        self.assertEqual(settle(grown(["?"], 1201), []), [-22])
        self.assertEqual(settle([10] * 1200, []), [-1001])
        self.assertEqual(settle([10] * 1201, []), [-22])
        self.assertEqual(settle([255] * 2000, [255] * 20), [-22])

    def test_ahead_of_too_many_states_and_of_no_state(self):
        lines = [line.ljust(99) for line in TOO_MANY + ["never a = 0"] * 8] + ["never a = 0"]
        self.assertEqual(settle(told(*lines[:-1]), [0] * 4), [-28])
        self.assertEqual(settle(told(*lines), [0] * 4), [-22])
        self.assertEqual(settle(told(*lines), [9]), [-22])

    def test_ahead_of_going_on_for_ever(self):
        lines = [line.ljust(99) for line in FOR_EVER + ["never a = 0"] * 9] + ["never a = 0"]
        self.assertEqual(settle(told(*lines[:-1]), [0]), [-41])
        self.assertEqual(settle(told(*lines), [0]), [-22])


class LineSaysNothing(unittest.TestCase):
    def test_alone(self):
        self.assertEqual(settled(["out a 1", "rule a = 0 -> a = 1", "no"], [0]), [-1003])

    def test_the_first_of_several_is_told(self):
        self.assertEqual(settled(["out a 1", "no", "never a = 0", ""], [0]), [-1002])
        self.assertEqual(settled(["out a 1", "", "no"], [0]), [-1002])
        self.assertEqual(settled(["no", "no", "no"], [0]), [-1001])
        self.assertEqual(settled(["out a 4", "rule a = 0 -> a = 1"], [0]), [-1001])

    def test_ahead_of_too_many_states(self):
        self.assertEqual(settled(TOO_MANY + ["no"], [0] * 4), [-1005])
        self.assertEqual(settled(["no"] + TOO_MANY, [0] * 4), [-1001])
        seven = [f"in {name} 1" for name in "abcdefg"]
        self.assertEqual(settled(seven, [0] * 7), [-1007])

    def test_ahead_of_no_state(self):
        self.assertEqual(settled(["out a 1", "no"], []), [-1002])
        self.assertEqual(settled(["out a 1", "no"], [2]), [-1002])

    def test_ahead_of_going_on_for_ever(self):
        self.assertEqual(settled(FOR_EVER + ["no"], [0]), [-1004])


class TooManyStates(unittest.TestCase):
    def house(self, tops):
        return [f"in {name} {top}" for name, top in zip("abcdef", tops)]

    def test_64_states(self):
        for tops in ([3, 3, 3], [1] * 6, [3, 1, 1, 1, 1], [3, 3, 1, 1]):
            self.assertEqual(settled(self.house(tops), tops), [0] + tops)

    def test_more_than_64_states(self):
        for tops in ([2, 2, 1, 1, 1], [2, 2, 2, 2], [3, 3, 3, 1], [3, 2, 2, 1], [2, 1, 1, 1, 1, 1], [3] * 6):
            self.assertEqual(settled(self.house(tops), tops), [-28])

    def test_fewer_than_64_states(self):
        for tops in ([2, 2, 2, 1], [3, 2, 1, 1], [3, 3, 2]):
            self.assertEqual(settled(self.house(tops), tops), [0] + tops)

    def test_ahead_of_no_state(self):
        self.assertEqual(settled(TOO_MANY, []), [-28])
        self.assertEqual(settled(TOO_MANY, [4, 0, 0, 0]), [-28])

    def test_ahead_of_going_on_for_ever(self):
        lines = ["out a 3", "in b 3", "in c 3", "in d 3", "rule a = 0 -> a = 1", "rule a = 1 -> a = 0"]
        self.assertEqual(settled(lines, [0] * 4), [-28])


class NotAState(unittest.TestCase):
    LINES = ["in a 1", "out b 2", "in c 3"]

    def test_too_short(self):
        self.assertEqual(settled(self.LINES, []), [-34])
        self.assertEqual(settled(self.LINES, [0, 0]), [-34])

    def test_too_long(self):
        self.assertEqual(settled(self.LINES, [0, 0, 0, 0]), [-34])
        self.assertEqual(settled(self.LINES, [0] * 20), [-34])

    def test_a_value_that_its_thing_does_not_have(self):
        self.assertEqual(settled(self.LINES, [1, 2, 3]), [0, 1, 2, 3])
        for state in ([2, 0, 0], [0, 3, 0], [0, 0, 4], [255, 0, 0], [0, 255, 0], [0, 0, 255], [3, 2, 1]):
            self.assertEqual(settled(self.LINES, state), [-34])

    def test_ahead_of_going_on_for_ever(self):
        self.assertEqual(settled(FOR_EVER, [0]), [-41])
        self.assertEqual(settled(FOR_EVER, [2]), [-34])
        self.assertEqual(settled(FOR_EVER, [0, 0]), [-34])

    def test_a_broken_ban_is_no_refusal(self):
        self.assertEqual(settled(["in a 1", "never a = 0"], [0]), [0, 0])


if __name__ == "__main__":
    unittest.main()
