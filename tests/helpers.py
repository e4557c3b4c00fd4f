"""What the tests share: texts as lists of bytes, and houses written line by line."""

from houserulesdesk.passes import settle, why


def bytes_of(text):
    return list(text.encode("latin-1"))


def told(*lines):
    return bytes_of("".join(line + "\n" for line in lines))


def settled(lines, state):
    return settle(told(*lines), state)


def decided(i, lines, state):
    return why(i, told(*lines), state)
