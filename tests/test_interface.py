"""The interface: what is handed in stays, nothing is kept, printed, read or imported, and nothing runs deep."""

import ast
import contextlib
import copy
import inspect
import io
import sys
import unittest

from houserulesdesk import passes
from houserulesdesk.passes import settle
from tests.helpers import told

HOUSE = ["in a 1", "out b 3", "out c 1", "rule a = 1 -> b = 3", "never b = 2", "rule b > 2 -> c = 1"]
FOR_EVER = ["out a 1", "rule a = 0 -> a = 1", "rule a = 1 -> a = 0"]
CALLS = (
    (told(*HOUSE), [1, 0, 0]), (told(*HOUSE), [0, 1, 1]), (told(*HOUSE), [4, 0, 0]), (told(*HOUSE), []),
    (told(*FOR_EVER), [0]), (told(*HOUSE, "no"), [0, 0, 0]), ([10] * 2000, []), ([], []),
    (told("in a 3", "in b 3", "in c 3", "in d 3"), [0] * 4),
)


def refuse(*args):
    raise AssertionError("what is handed in is changed")


class Kept(list):
    """A list that tells at once if somebody changes it, even for a while."""

    __setitem__ = __delitem__ = __iadd__ = __imul__ = refuse
    append = clear = extend = insert = pop = remove = reverse = sort = refuse


class WhatIsHandedIn(unittest.TestCase):
    def test_it_is_the_same_afterwards(self):
        for t, state in CALLS:
            was = copy.deepcopy((t, state))
            settle(t, state)
            self.assertEqual((t, state), was)

    def test_it_is_not_changed_for_a_while(self):
        for t, state in CALLS:
            self.assertEqual(settle(Kept(t), Kept(state)), settle(t, state))

    def test_the_answer_is_a_list_of_its_own(self):
        t = told(*HOUSE)
        state = [0, 0, 0]
        answer = settle(t, state)
        answer[1:] = [7, 7, 7]
        answer.append(7)
        self.assertEqual((t, state), (told(*HOUSE), [0, 0, 0]))
        self.assertEqual(settle(t, state), [0, 0, 0, 0])

    def test_its_arguments_are_called_as_told(self):
        self.assertEqual(list(inspect.signature(settle).parameters), ["t", "state"])
        self.assertEqual(settle(t=told(*HOUSE), state=[1, 0, 0]), [2, 1, 3, 1])


class WhatComesBack(unittest.TestCase):
    def test_it_is_a_list_of_whole_numbers(self):
        for t, state in CALLS:
            answer = settle(t, state)
            self.assertIs(type(answer), list)
            self.assertEqual([type(number) for number in answer], [int] * len(answer))

    def test_its_length(self):
        for t, state in CALLS:
            answer = settle(t, state)
            self.assertEqual(len(answer), 1 + len(state) if answer[0] >= 0 else 1)


class NothingIsKept(unittest.TestCase):
    def test_a_second_call_answers_as_the_first(self):
        first = [settle(t, state) for t, state in CALLS]
        self.assertEqual(first, [
            [2, 1, 3, 1], [0, 0, 1, 1], [-34], [-34], [-41], [-1007], [-22], [0], [-28],
        ])
        self.assertEqual([settle(t, state) for t, state in CALLS], first)
        self.assertEqual([settle(t, state) for t, state in reversed(CALLS)], first[::-1])

    def test_a_house_refused_midway_leaves_nothing_behind(self):
        settle(told("out a 1", "out b 1", "no"), [0, 0])
        self.assertEqual(settle(told("out a 1"), [0]), [0, 0])

    def test_what_the_module_holds_stays(self):
        def held():
            return {name: copy.deepcopy(value) for name, value in vars(passes).items()
                    if isinstance(value, (int, str, list, tuple, dict)) and not name.startswith("__")}
        was = held()
        for t, state in CALLS:
            settle(t, state)
        self.assertEqual(held(), was)


class NothingElseIsDone(unittest.TestCase):
    def test_it_prints_nothing(self):
        out, err = io.StringIO(), io.StringIO()
        with contextlib.redirect_stdout(out), contextlib.redirect_stderr(err):
            for t, state in CALLS:
                settle(t, state)
        self.assertEqual((out.getvalue(), err.getvalue()), ("", ""))

    def test_it_imports_nothing(self):
        tree = ast.parse(inspect.getsource(passes))
        found = [node.lineno for node in ast.walk(tree) if isinstance(node, (ast.Import, ast.ImportFrom))]
        self.assertEqual(found, [])


class NothingRunsDeep(unittest.TestCase):
    def depth(self, t, state):
        """How many calls stand within one another at the most."""
        depths = [0, 0]

        def watch(frame, event, arg):
            if event == "call":
                depths[0] += 1
                depths[1] = max(depths)
            elif event == "return":
                depths[0] -= 1

        before = sys.getprofile()
        sys.setprofile(watch)
        try:
            settle(t, state)
        finally:
            sys.setprofile(before)
        return depths[1]

    def test_deeper_conditions_need_no_deeper_calls(self):
        flat = self.depth(told("out a 1", "rule a = 0 -> a = 1"), [0])
        nots = self.depth(told("out a 1", "rule " + "not " * 20 + "a = 0 -> a = 1"), [0])
        ors = self.depth(told("out a 1", "rule " + "or a = 0 " * 9 + "a = 0 -> a = 1"), [0])
        left = self.depth(told("out a 1", "rule " + "or " * 9 + "a = 0 " * 9 + "a = 0 -> a = 1"), [0])
        self.assertLessEqual(max(nots, ors, left), flat + 1)

    def test_longer_texts_need_no_deeper_calls(self):
        flat = self.depth(told("out a 1", "rule a = 0 -> a = 1"), [0])
        many = self.depth(told("out a 1", *["rule a = 0 -> a = 1"] * 16), [0])
        self.assertEqual(many, flat)
        self.assertLessEqual(self.depth([10] * 2000, []), flat)


if __name__ == "__main__":
    unittest.main()
