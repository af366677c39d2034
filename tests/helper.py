"""Writes calls as whole numbers, and takes their answers apart again."""

from requestclasses.patterns import answers

NUMBERS = {
    "directory": 0,
    "show": 1,
    "pattern": 2,
    "drop": 3,
    "told": 4,
    "members": 5,
    "groups": 6,
    "fits": 7,
    "which": 8,
    "represent": 9,
    "count": 10,
    "nth": 11,
    "before": 12,
    "fresh": 13,
    "size": 14,
}


def row_of(text):
    """A text's bytes: of a str, which is ASCII, or of a list of bytes as it stands."""
    return list(text.encode("ascii")) if isinstance(text, str) else list(text)


def written(*calls):
    """The list of calls: each is a tuple of its name, its whole numbers and its texts."""
    numbers = []
    for call in calls:
        numbers.append(NUMBERS[call[0]])
        for value in call[1:]:
            if isinstance(value, int):
                numbers.append(value)
            else:
                row = row_of(value)
                numbers.append(len(row))
                numbers.extend(row)
    return numbers


def taken_apart(answered):
    """The answers one by one, without how many numbers each has."""
    parts = []
    place = 0
    while place < len(answered):
        length = answered[place]
        part = answered[place + 1:place + 1 + length]
        if length < 1 or len(part) != length:
            raise AssertionError("the answers are not as long as they tell")
        parts.append(part)
        place += 1 + length
    return parts


def ask(*calls):
    """The answers of all calls."""
    parts = taken_apart(answers(written(*calls)))
    if len(parts) != len(calls):
        raise AssertionError("there is not one answer to each call")
    return parts


def last(*calls):
    """The answer of the last call."""
    return ask(*calls)[-1]


def text(words):
    """A text as it is answered."""
    row = row_of(words)
    return [len(row)] + row


def texts(*many):
    """Texts as they are answered."""
    answered = [len(many)]
    for one in many:
        answered.extend(text(one))
    return answered


def words_of(answered):
    """The words of an answer that is one text."""
    if answered[0] != len(answered) - 1:
        raise AssertionError("%r is no text" % answered)
    return bytes(answered[1:]).decode("ascii")


def lines(*many):
    """Lines, each of them ended."""
    return "".join(line + "\n" for line in many)
