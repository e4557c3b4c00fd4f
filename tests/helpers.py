"""What the tests share: texts as lists of bytes, and houses written line by line."""

from houserulesdesk.passes import never, settle, why


def bytes_of(text):
    return list(text.encode("latin-1"))


def told(*lines):
    return bytes_of("".join(line + "\n" for line in lines))


def long_text(lines):
    """1,200 bytes: each line padded to 99 and its end, bans that a = 0 breaks in front of the end."""
    return told(*[line.ljust(99) for line in lines + ["never a = 0"] * (12 - len(lines))])


def settled(lines, state):
    return settle(told(*lines), state)


def decided(i, lines, state):
    return why(i, told(*lines), state)


def broken(lines, state):
    return never(told(*lines), state)
