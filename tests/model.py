"""A second way to say what the calls answer: by recursion, by regular expressions, by states seen before."""

import re

NAME = re.compile(r"(?!(?:in|out|rule|never|and|or|not)\Z)[a-z]{1,8}\Z")
THING = re.compile(r"(in|out) (\S+) ([123])\Z")
RULE = re.compile(r"rule (.+) -> (\S+) = ([0-9])\Z")
BAN = re.compile(r"never (.+)\Z")


class Nothing(Exception):
    """The line says none of what a line may say."""


def parse(words, things):
    """A test of states, and the words behind it."""
    if not words:
        raise Nothing
    word, rest = words[0], words[1:]
    if word == "not":
        inner, rest = parse(rest, things)
        return (lambda state: not inner(state)), rest
    if word in ("and", "or"):
        left, rest = parse(rest, things)
        right, rest = parse(rest, things)
        if word == "and":
            return (lambda state: left(state) and right(state)), rest
        return (lambda state: left(state) or right(state)), rest
    values = {str(value) for value in range(things[word][1] + 1)} if word in things else set()
    if len(rest) < 2 or rest[0] not in ("=", "<", ">") or rest[1] not in values:
        raise Nothing
    at, sign, digit = things[word][0], rest[0], int(rest[1])
    wanted = {"=": (0,), "<": (-1,), ">": (1,)}[sign]
    return (lambda state: (state[at] > digit) - (state[at] < digit) in wanted), rest[2:]


def whole(text, things):
    test, rest = parse(text.split(" "), things)
    if rest:
        raise Nothing
    return test


def take(line, things, entries):
    if len(line) > 100 or re.search(rb"[^ -~]", line):
        raise Nothing
    text = re.sub(" +", " ", line.decode("ascii")).strip(" ")
    thing, rule, ban = THING.match(text), RULE.match(text), BAN.match(text)
    if thing and NAME.match(thing[2]) and thing[2] not in things and len(things) < 6:
        things[thing[2]] = (len(things), int(thing[3]), thing[1] == "out")
    elif rule and len(entries) < 16:
        test = whole(rule[1], things)
        at, top, out = things.get(rule[2], (0, -1, False))
        if not out or int(rule[3]) > top:
            raise Nothing
        entries.append((test, at, int(rule[3])))
    elif ban and len(entries) < 16:
        entries.append((whole(ban[1], things), None, None))
    else:
        raise Nothing


def step(state, entries):
    after = {}
    for test, at, value in entries:
        if at is not None and at not in after and test(state):
            after[at] = value
    return tuple(after.get(at, value) for at, value in enumerate(state))


def read(t):
    """The things and the entries of the text, or the number of the line that says nothing."""
    lines = bytes(t).split(b"\n")
    if lines[-1] == b"":
        lines.pop()
    things, entries = {}, []
    for k, line in enumerate(lines, start=1):
        try:
            take(line, things, entries)
        except Nothing:
            return k
    return things, entries


def refusal(t, state):
    """What all calls refuse, or None."""
    if len(t) > 1200:
        return -22
    house = read(t)
    if isinstance(house, int):
        return -1000 - house
    things, entries = house
    states = 1
    for at, top, out in things.values():
        states *= top + 1
    if states > 64:
        return -28
    if len(state) != len(things) or any(value > top for value, (at, top, out) in zip(state, things.values())):
        return -34
    return None


def settle(t, state):
    refused = refusal(t, state)
    if refused is not None:
        return [refused]
    things, entries = read(t)
    seen = [tuple(state)]
    while True:
        after = step(seen[-1], entries)
        if after == seen[-1]:
            return [len(seen) - 1, *after]
        if after in seen:
            return [-41]
        seen.append(after)


def why(i, t, state):
    refused = refusal(t, state)
    if refused is not None:
        return [refused]
    things, entries = read(t)
    if i not in [at for at, top, out in things.values()]:
        return [-2]
    return [min((number for number, (test, at, value) in enumerate(entries) if at == i and test(state)), default=-6)]


def never(t, state):
    refused = refusal(t, state)
    if refused is not None:
        return [refused]
    things, entries = read(t)
    return [min((number for number, (test, at, value) in enumerate(entries) if at is None and test(state)), default=-6)]
