"""The interface: what is handed in stays, nothing is kept, printed, read or imported, and nothing runs deep."""

import ast
import contextlib
import copy
import inspect
import io
import sys
import unittest

from houserulesdesk import passes
from houserulesdesk.passes import never, settle, why
from tests.helpers import told

HOUSE = ["in a 1", "out b 3", "out c 1", "rule a = 1 -> b = 3", "never b = 2", "rule b > 2 -> c = 1"]
FOR_EVER = ["out a 1", "rule a = 0 -> a = 1", "rule a = 1 -> a = 0"]
INPUTS = (
    (told(*HOUSE), [1, 0, 0]), (told(*HOUSE), [0, 2, 1]), (told(*HOUSE), [4, 0, 0]), (told(*HOUSE), []),
    (told(*FOR_EVER), [0]), (told(*HOUSE, "no"), [0, 0, 0]), ([10] * 2000, []), ([], []),
    (told("in a 3", "in b 3", "in c 3", "in d 3"), [0] * 4),
)
SETTLED = ([2, 1, 3, 1], [0, 0, 2, 1], [-34], [-34], [-41], [-1007], [-22], [0], [-28])
DECIDED = {
    0: ([-6], [-6], [-34], [-34], [0], [-1007], [-22], [-2], [-28]),
    1: ([0], [-6], [-34], [-34], [-2], [-1007], [-22], [-2], [-28]),
    4294967295: ([-2], [-2], [-34], [-34], [-2], [-1007], [-22], [-2], [-28]),
}
BROKEN = ([-6], [1], [-34], [-34], [-6], [-1007], [-22], [-6], [-28])
# Each call with what it answers: the function, what is handed in, the answer.
CALLS = [(settle, given, answer) for given, answer in zip(INPUTS, SETTLED)]
CALLS += [(why, (i, *given), answer) for i in DECIDED for given, answer in zip(INPUTS, DECIDED[i])]
CALLS += [(never, given, answer) for given, answer in zip(INPUTS, BROKEN)]


def refuse(*args):
    raise AssertionError("what is handed in is changed")


class Kept(list):
    """A list that tells at once if somebody changes it, even for a while."""

    __setitem__ = __delitem__ = __iadd__ = __imul__ = refuse
    append = clear = extend = insert = pop = remove = reverse = sort = refuse


def kept(value):
    return Kept(value) if isinstance(value, list) else value


class WhatIsHandedIn(unittest.TestCase):
    def test_it_is_the_same_afterwards(self):
        for call, given, answer in CALLS:
            was = copy.deepcopy(given)
            call(*given)
            self.assertEqual(given, was)

    def test_it_is_not_changed_for_a_while(self):
        for call, given, answer in CALLS:
            self.assertEqual(call(*[kept(value) for value in given]), answer)

    def test_the_answer_is_a_list_of_its_own(self):
        t = told(*HOUSE)
        state = [0, 0, 0]
        answer = settle(t, state)
        answer[1:] = [7, 7, 7]
        answer.append(7)
        self.assertEqual((t, state), (told(*HOUSE), [0, 0, 0]))
        self.assertEqual(settle(t, state), [0, 0, 0, 0])

    def test_no_two_answers_are_one_list(self):
        for call, given, answer in CALLS:
            call(*given).append(7)
            self.assertEqual(call(*given), answer)

    def test_its_arguments_are_called_as_told(self):
        self.assertEqual(list(inspect.signature(settle).parameters), ["t", "state"])
        self.assertEqual(settle(t=told(*HOUSE), state=[1, 0, 0]), [2, 1, 3, 1])
        self.assertEqual(list(inspect.signature(why).parameters), ["i", "t", "state"])
        self.assertEqual(why(i=1, t=told(*HOUSE), state=[1, 0, 0]), [0])
        self.assertEqual(list(inspect.signature(never).parameters), ["t", "state"])
        self.assertEqual(never(t=told(*HOUSE), state=[1, 2, 0]), [1])


class WhatComesBack(unittest.TestCase):
    def test_it_is_a_list_of_whole_numbers(self):
        for call, given, answer in CALLS:
            found = call(*given)
            self.assertIs(type(found), list)
            self.assertEqual([type(number) for number in found], [int] * len(found))

    def test_its_length(self):
        for t, state in INPUTS:
            answer = settle(t, state)
            self.assertEqual(len(answer), 1 + len(state) if answer[0] >= 0 else 1)
            for i in DECIDED:
                self.assertEqual(len(why(i, t, state)), 1)
            self.assertEqual(len(never(t, state)), 1)


class NothingIsKept(unittest.TestCase):
    def test_a_second_call_answers_as_the_first(self):
        answers = [answer for call, given, answer in CALLS]
        self.assertEqual([call(*given) for call, given, answer in CALLS], answers)
        self.assertEqual([call(*given) for call, given, answer in CALLS], answers)
        self.assertEqual([call(*given) for call, given, answer in reversed(CALLS)], answers[::-1])

    def test_a_house_refused_midway_leaves_nothing_behind(self):
        settle(told("out a 1", "out b 1", "no"), [0, 0])
        self.assertEqual(settle(told("out a 1"), [0]), [0, 0])
        why(0, told("out a 1", "out b 1", "rule a = 0 -> b = 1", "no"), [0, 0])
        self.assertEqual(why(1, told("out a 1"), [0]), [-2])
        never(told("out a 1", "never a = 0", "no"), [0])
        self.assertEqual(never(told("out a 1"), [0]), [-6])
        self.assertEqual(never(told("out a 1", "never a = 0"), [0]), [0])

    def test_what_the_module_holds_stays(self):
        def held():
            return {name: copy.deepcopy(value) for name, value in vars(passes).items()
                    if isinstance(value, (int, str, list, tuple, dict)) and not name.startswith("__")}
        was = held()
        for call, given, answer in CALLS:
            call(*given)
        self.assertEqual(held(), was)


class NothingElseIsDone(unittest.TestCase):
    def test_it_prints_nothing(self):
        out, err = io.StringIO(), io.StringIO()
        with contextlib.redirect_stdout(out), contextlib.redirect_stderr(err):
            for call, given, answer in CALLS:
                call(*given)
        self.assertEqual((out.getvalue(), err.getvalue()), ("", ""))

    def test_it_imports_nothing(self):
        tree = ast.parse(inspect.getsource(passes))
        found = [node.lineno for node in ast.walk(tree) if isinstance(node, (ast.Import, ast.ImportFrom))]
        self.assertEqual(found, [])


class NothingRunsDeep(unittest.TestCase):
    def depth(self, call, *given):
        """How many calls stand within one another at the most."""
        depths = [0, 0]

        def watch(frame, event, arg):
            if event == "call":
                depths[0] += 1
                depths[1] = max(depths)
            elif event == "return":
                depths[0] -= 1

        before = sys.getprofile()
        sys.setprofile(watch)
        try:
            call(*given)
        finally:
            sys.setprofile(before)
        return depths[1]

    def depths(self, t, state):
        return [self.depth(settle, t, state), self.depth(why, 0, t, state), self.depth(never, t, state)]

    def assert_no_deeper(self, t, state, more):
        flat = self.depths(told("out a 1", "rule a = 0 -> a = 1", "never a = 0"), [0])
        for found, most in zip(self.depths(t, state), flat):
            self.assertLessEqual(found, most + more)

    def test_deeper_conditions_need_no_deeper_calls(self):
        # One more, for what joins two truths.
        self.assert_no_deeper(told("out a 1", "rule " + "not " * 20 + "a = 0 -> a = 1"), [0], 1)
        self.assert_no_deeper(told("out a 1", "rule " + "or a = 0 " * 9 + "a = 0 -> a = 1"), [0], 1)
        self.assert_no_deeper(told("out a 1", "rule " + "or " * 9 + "a = 0 " * 9 + "a = 0 -> a = 1"), [0], 1)
        self.assert_no_deeper(told("out a 1", "never " + "not " * 22 + "a = 0"), [0], 1)
        self.assert_no_deeper(told("out a 1", "never " + "or a = 0 " * 9 + "a = 0"), [0], 1)
        self.assert_no_deeper(told("out a 1", "never " + "or " * 9 + "a = 0 " * 9 + "a = 0"), [0], 1)

    def test_longer_texts_need_no_deeper_calls(self):
        self.assert_no_deeper(told("out a 1", *["rule a = 0 -> a = 1"] * 16), [0], 0)
        self.assert_no_deeper(told("out a 1", *["never a = 1"] * 16), [0], 0)
        self.assert_no_deeper([10] * 2000, [], 0)


if __name__ == "__main__":
    unittest.main()
