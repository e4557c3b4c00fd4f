"""Many houses, sound and spoilt: each call answers as the model does, and what holds holds."""

import random
import unittest
from collections import Counter

from houserulesdesk.passes import never, settle, why
from tests import model

WORDS = ["in", "out", "rule", "never", "and", "or", "not", "->", "=", "<", ">", "0", "1", "2", "3", "4", "a", "b", "c"]


def condition(rng, things, depth):
    kind = rng.choice(["not", "and", "or", "plain", "plain"]) if depth else "plain"
    if kind == "plain":
        name = rng.choice(list(things))
        return f"{name} {rng.choice('==<>')} {rng.randint(0, things[name])}"
    parts = [condition(rng, things, depth - 1) for part in range(1 if kind == "not" else 2)]
    return " ".join([kind] + parts)


def house(rng):
    """The lines of a house that is mostly sound."""
    things, outs, lines = {}, [], []
    for name in rng.sample("abcdefgh", rng.randint(1, 5)):
        things[name] = rng.choice([1, 1, 1, 2, 3])
        kind = rng.choice(["in", "out", "out", "out"])
        outs += [name] if kind == "out" else []
        lines.append(f"{kind} {name} {things[name]}")
    for entry in range(rng.randint(0, 12)):
        text = condition(rng, things, rng.randint(0, 3))
        if outs and rng.random() < 0.85:
            name = rng.choice(outs)
            lines.append(f"rule {text} -> {name} = {rng.randint(0, things[name])}")
        else:
            lines.append(f"never {text}")
    return lines, list(things.values())


def spoil(rng, lines):
    """The lines with one word changed, dropped or put in."""
    at = rng.randrange(len(lines))
    words = lines[at].split(" ")
    place = rng.randrange(len(words))
    words[place:place + rng.choice([0, 1, 1])] = rng.choice([[], [rng.choice(WORDS)], [rng.choice(WORDS)]])
    return lines[:at] + [" ".join(words)] + lines[at + 1:]


class AgainstTheModel(unittest.TestCase):
    def sound_houses(self, count):
        rng = random.Random(2)
        for turn in range(count):
            lines, tops = house(rng)
            yield list("\n".join(lines).encode()), [rng.randint(0, top) for top in tops]

    def test_sound_houses(self):
        kinds = Counter()
        for t, state in self.sound_houses(3000):
            found = settle(t, state)
            self.assertEqual(found, model.settle(t, state), (bytes(t), state))
            kinds[found[0]] += 1
        for kind in (-41, -28, 0, 1, 2, 3):
            self.assertGreater(kinds[kind], 20, kind)

    def test_why_in_sound_houses(self):
        kinds = Counter()
        for t, state in self.sound_houses(2000):
            for i in range(len(state) + 2):
                found = why(i, t, state)
                self.assertEqual(found, model.why(i, t, state), (i, bytes(t), state))
                kinds[found[0]] += 1
        for kind in (-28, -6, -2, 0, 1, 2, 3, 4, 5, 6, 7):
            self.assertGreater(kinds[kind], 20, kind)

    def test_never_in_sound_houses(self):
        kinds = Counter()
        for t, state in self.sound_houses(4000):
            found = never(t, state)
            self.assertEqual(found, model.never(t, state), (bytes(t), state))
            kinds[found[0]] += 1
        for kind in (-28, -6, 0, 1, 2, 3, 4, 5, 6, 7):
            self.assertGreater(kinds[kind], 20, kind)

    def test_spoilt_houses(self):
        rng = random.Random(3)
        refused = 0
        for turn in range(3000):
            lines, tops = house(rng)
            t = list("\n".join(spoil(rng, lines)).encode())
            state = [rng.randint(0, top) for top in tops]
            found = settle(t, state)
            self.assertEqual(found, model.settle(t, state), (bytes(t), state))
            i = rng.randrange(7)
            self.assertEqual(why(i, t, state), model.why(i, t, state), (i, bytes(t), state))
            self.assertEqual(never(t, state), model.never(t, state), (bytes(t), state))
            refused += found[0] < -1000
        self.assertGreater(refused, 500)

    def test_texts_of_any_bytes(self):
        rng = random.Random(4)
        for turn in range(1000):
            t = list(" ".join(rng.choices(WORDS + ["\n", "\n", "in a 1\n"], k=rng.randint(0, 40))).encode())
            for change in range(rng.randint(0, 2)):
                t.insert(rng.randint(0, len(t)), rng.randint(0, 255))
            state = [rng.randint(0, 2) for value in range(rng.randint(0, 2))]
            self.assertEqual(settle(t, state), model.settle(t, state), (bytes(t), state))
            i = rng.randrange(3)
            self.assertEqual(why(i, t, state), model.why(i, t, state), (i, bytes(t), state))
            self.assertEqual(never(t, state), model.never(t, state), (bytes(t), state))

    def test_what_holds(self):
        for t, state in self.sound_houses(2000):
            found = settle(t, state)
            if found[0] < -41 or found[0] in (-22, -28, -34):
                continue
            things, entries = model.read(t)
            if found[0] == -41:
                self.assert_goes_on(tuple(state), entries)
                continue
            after = found[1:]
            self.assertEqual(settle(t, after), [0] + after)
            self.assertEqual(model.step(tuple(after), entries), tuple(after))
            for at, top, out in things.values():
                if not out:
                    self.assertEqual(after[at], state[at])
                deciding = [value for test, thing, value in entries if thing == at and test(after)]
                self.assertIn(after[at], deciding[:1] or [after[at]])

    def test_why_tells_what_a_pass_does(self):
        for t, state in self.sound_houses(1000):
            deciding = [why(i, t, state) for i in range(len(state))]
            if [-28] in deciding:
                continue
            things, entries = model.read(t)
            after = [entries[number][2] if number >= 0 else was for (number,), was in zip(deciding, state)]
            self.assertEqual(tuple(after), model.step(tuple(state), entries), (bytes(t), state))

    def assert_goes_on(self, state, entries):
        for turn in range(200):
            after = model.step(state, entries)
            self.assertNotEqual(after, state)
            state = after


if __name__ == "__main__":
    unittest.main()
