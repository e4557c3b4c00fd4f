"""Reads a house from its text, settles it, and tells which rule decides a thing and which ban is broken."""

MOST_BYTES = 1200
MOST_BYTES_IN_LINE = 100
MOST_THINGS = 6
MOST_ENTRIES = 16
MOST_LETTERS = 8
MOST_STATES = 64

LINE_END = 10
FIRST_BYTE = 32
LAST_BYTE = 126

TEXT_TOO_LONG = -22
LINE_SAYS_NOTHING = -1000
TOO_MANY_STATES = -28
NOT_A_STATE = -34
FOR_EVER = -41
NO_SUCH_THING = -2
NO_RULE_DECIDES = -6
NO_BAN_BROKEN = -6
NO_REFUSAL = 0

# Stands where a thing's number, an entry's number or a value would, if there is none.
NONE = -1

LETTERS = "abcdefghijklmnopqrstuvwxyz"
# Only these signs stand in words that mean something; every other one makes a word meaningless.
SIGNS = " abcdefghijklmnopqrstuvwxyz0123-=<>"
OTHER_SIGN = "?"

# No thing has a value above 3, so a higher digit is never one of its values.
DIGITS = {"0": 0, "1": 1, "2": 2, "3": 3}
KINDS_OF_THING = ("in", "out")
JOINERS = ("and", "or")
COMPARISONS = ("=", "<", ">")
RESERVED = ("in", "out", "rule", "never", "and", "or", "not")


class Thing:
    """A thing with the values 0 to top; rules may set it if it is settable."""

    def __init__(self, name, top, settable):
        self.name = name
        self.top = top
        self.settable = settable


class Step:
    """One part of a condition: a comparison, or one of "not", "and", "or", which have no thing and no value."""

    def __init__(self, word, thing, value):
        self.word = word
        self.thing = thing
        self.value = value


class Entry:
    """A rule that sets a thing to a value, or a ban, which sets none."""

    def __init__(self, condition, thing, value):
        self.condition = condition
        self.thing = thing
        self.value = value


class House:
    """Things and entries; bad_line is the first line that could not be taken, 0 if all were."""

    def __init__(self):
        self.things = []
        self.entries = []
        self.bad_line = 0


def settle(t, state):
    """By how many passes the house settles, and the state it settles in; or a refusal alone."""
    house = read_house(t)
    refusal = find_refusal(t, house, state)
    if refusal != NO_REFUSAL:
        return [refusal]
    return settle_house(house, state)


def why(i, t, state):
    """The number, as an entry, of the rule that decides thing i in the state; or a refusal alone."""
    house = read_house(t)
    refusal = find_refusal(t, house, state)
    if refusal != NO_REFUSAL:
        return [refusal]
    if i >= len(house.things):
        return [NO_SUCH_THING]
    number = find_deciding(house, i, state)
    if number == NONE:
        return [NO_RULE_DECIDES]
    return [number]


def never(t, state):
    """The number, as an entry, of the first ban that is broken in the state; or a refusal alone."""
    house = read_house(t)
    refusal = find_refusal(t, house, state)
    if refusal != NO_REFUSAL:
        return [refusal]
    number = find_broken(house, state)
    if number == NONE:
        return [NO_BAN_BROKEN]
    return [number]


def find_refusal(t, house, state):
    """The first refusal that is due, in the order in which the document tells them."""
    if len(t) > MOST_BYTES:
        return TEXT_TOO_LONG
    if house.bad_line > 0:
        return LINE_SAYS_NOTHING - house.bad_line
    if count_states(house) > MOST_STATES:
        return TOO_MANY_STATES
    if not is_state(house, state):
        return NOT_A_STATE
    return NO_REFUSAL


def count_states(house):
    states = 1
    for thing in house.things:
        states = states * (thing.top + 1)
    return states


def is_state(house, state):
    if len(state) != len(house.things):
        return False
    for thing, value in zip(house.things, state):
        if value > thing.top:
            return False
    return True


def settle_house(house, state):
    now = list(state)
    # Whoever changes as often as there are states has been in one of them twice, and so goes on for ever.
    for passes in range(count_states(house)):
        after = pass_once(house, now)
        if after == now:
            return [passes] + now
        now = after
    return [FOR_EVER]


def pass_once(house, state):
    """The state behind one pass; every condition is asked in the state ahead of it."""
    after = list(state)
    for thing in range(len(state)):
        number = find_deciding(house, thing, state)
        if number != NONE:
            after[thing] = house.entries[number].value
    return after


def find_deciding(house, thing, state):
    """The number of the entry that decides the thing in the state, or NONE."""
    for number, entry in enumerate(house.entries):
        if entry.thing == thing and holds(entry.condition, state):
            return number
    return NONE


def find_broken(house, state):
    """The number of the first entry that is a ban and is broken in the state, or NONE."""
    # What sets no thing is a ban, so bans are found as the rules of a thing are.
    return find_deciding(house, NONE, state)


def holds(condition, state):
    # From the last step to the first, what a step needs is known before the step comes.
    known = []
    for step in reversed(condition):
        if step.word == "not":
            known.append(not known.pop())
        elif step.word in JOINERS:
            first = known.pop()
            second = known.pop()
            known.append(join_truths(step.word, first, second))
        else:
            known.append(compare(step.word, state[step.thing], step.value))
    return known.pop()


def join_truths(word, first, second):
    if word == "and":
        return first and second
    return first or second


def compare(word, left, right):
    if word == "=":
        return left == right
    if word == "<":
        return left < right
    return left > right


def read_house(t):
    house = House()
    for number, line in enumerate(split_lines(t), start=1):
        if not take_line(house, line):
            house.bad_line = number
            return house
    return house


def split_lines(t):
    lines = []
    line = []
    for byte in t:
        if byte == LINE_END:
            lines.append(line)
            line = []
        else:
            line.append(byte)
    if len(line) > 0:
        lines.append(line)
    return lines


def take_line(house, line):
    """Puts what the line says into the house; False, and the house as it was, if it says nothing."""
    if not has_line_bytes(line):
        return False
    words = split_words(line)
    if len(words) == 0:
        return False
    if words[0] in KINDS_OF_THING:
        return take_thing(house, words)
    if words[0] == "rule":
        return take_rule(house, words)
    if words[0] == "never":
        return take_ban(house, words)
    return False


def has_line_bytes(line):
    if len(line) > MOST_BYTES_IN_LINE:
        return False
    return all([FIRST_BYTE <= byte <= LAST_BYTE for byte in line])


def split_words(line):
    return "".join([sign_of(byte) for byte in line]).split()


def sign_of(byte):
    for sign in SIGNS:
        if ord(sign) == byte:
            return sign
    return OTHER_SIGN


def take_thing(house, words):
    if len(words) != 3 or len(house.things) == MOST_THINGS:
        return False
    name = words[1]
    top = DIGITS.get(words[2], NONE)
    if top < 1 or not is_name(name) or find_thing(house, name) != NONE:
        return False
    house.things.append(Thing(name, top, words[0] == "out"))
    return True


def is_name(word):
    if len(word) > MOST_LETTERS or word in RESERVED:
        return False
    return all([sign in LETTERS for sign in word])


def find_thing(house, name):
    for number, thing in enumerate(house.things):
        if thing.name == name:
            return number
    return NONE


def take_rule(house, words):
    # The arrow and the setting behind it are always the last four words, whatever the condition is.
    if len(words) < 5 or words[-4] != "->":
        return False
    condition = read_condition(house, words[1:-4])
    setting = read_comparison(house, words[-3:])
    if condition is None or setting is None:
        return False
    if setting.word != "=" or not house.things[setting.thing].settable:
        return False
    return take_entry(house, Entry(condition, setting.thing, setting.value))


def take_ban(house, words):
    condition = read_condition(house, words[1:])
    if condition is None:
        return False
    return take_entry(house, Entry(condition, NONE, NONE))


def take_entry(house, entry):
    if len(house.entries) == MOST_ENTRIES:
        return False
    house.entries.append(entry)
    return True


def read_condition(house, words):
    """The steps of the condition, in the order of its words; None if the words aren't just one condition."""
    steps = []
    # How many conditions are still to come: counted, a condition needs no calls within calls.
    wanted = 1
    at = 0
    while at < len(words):
        if wanted == 0:
            return None
        word = words[at]
        if word == "not" or word in JOINERS:
            step = Step(word, NONE, NONE)
            wanted = wanted + (1 if word in JOINERS else 0)
            at = at + 1
        else:
            step = read_comparison(house, words[at:at + 3])
            if step is None:
                return None
            wanted = wanted - 1
            at = at + 3
        steps.append(step)
    return steps if wanted == 0 else None


def read_comparison(house, words):
    """A name, a sign of comparison and one of the thing's values as a step; None if the words aren't that."""
    if len(words) != 3 or words[1] not in COMPARISONS:
        return None
    number = find_thing(house, words[0])
    if number == NONE:
        return None
    value = DIGITS.get(words[2], NONE)
    if value == NONE or value > house.things[number].top:
        return None
    return Step(words[1], number, value)
