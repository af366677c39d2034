"""Names and their order, the least name beside some, and the paths and times that texts tell."""

from requestclasses.refusals import require_form

LETTERS = "abcdefghijklmnopqrstuvwxyz"
DIGITS = "0123456789"
# What may stand behind a name's first letter, in the order of the bytes.
LATER_SIGNS = "0123456789abcdefghijklmnopqrstuvwxyz"
LONGEST_NAME = 12
LATEST_TIME = 1000000


def has_only(text, signs):
    """Whether each sign of the text is among the signs."""
    return all([sign in signs for sign in text])


def is_name(text):
    """Whether the text is a name."""
    if not 1 <= len(text) <= LONGEST_NAME:
        return False
    return text[0] in LETTERS and has_only(text, LATER_SIGNS)


def are_names(texts):
    """Whether each of the texts is a name."""
    return all([is_name(text) for text in texts])


def all_differ(texts):
    """Whether no two of the texts are the same."""
    return len(set(texts)) == len(texts)


def name_order(name):
    """What names are ordered by: the length, then the bytes."""
    return (len(name), name)


def row_order(names):
    """What paths and rows of flags are ordered by: how many names they have, then the names."""
    return (len(names), [name_order(name) for name in names])


def are_rising(names):
    """Whether each name comes before the one behind it."""
    return all([name_order(one) < name_order(other) for one, other in zip(names, names[1:])])


def each_once(names):
    """The names, each once, as a dict of True."""
    once = {}
    for name in names:
        once[name] = True
    return once


def in_order(names):
    """The names, each once, in their order."""
    return sorted(each_once(names), key=name_order)


def name_at(number):
    """The name with the number, from 0, in the order of all names."""
    later = 0
    as_long = len(LETTERS)
    while number >= as_long:
        number -= as_long
        as_long *= len(LATER_SIGNS)
        later += 1
    tail = ""
    for k in range(later):
        tail = LATER_SIGNS[number % len(LATER_SIGNS)] + tail
        number //= len(LATER_SIGNS)
    return LETTERS[number] + tail


def least_name_beside(names):
    """The least name that is none of these."""
    taken = each_once(names)
    number = 0
    while name_at(number) in taken:
        number += 1
    return name_at(number)


def names_from_text(text):
    """The names of a text in which they stand with one blank between neighbours."""
    if text == "":
        return []
    names = text.split(" ")
    require_form(are_names(names))
    return names


def path_from_text(text, most):
    """The names of a path of at most so many names."""
    require_form(text.startswith("/"))
    if text == "/":
        return []
    path = text.split("/")[1:]
    require_form(len(path) <= most and are_names(path))
    return path


def is_time(text):
    """Whether the text is a time, in digits without needless zeros."""
    # The length comes first: Python turns no row of thousands of digits into a number.
    if not 1 <= len(text) <= len(str(LATEST_TIME)) or not has_only(text, DIGITS):
        return False
    return str(int(text)) == text and int(text) <= LATEST_TIME


def time_from_text(text):
    """The time that the text tells."""
    require_form(is_time(text))
    return int(text)
