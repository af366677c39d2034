"""Names and their order, and the paths and times that texts tell."""

from requestclasses.refusals import require_form

LETTERS = "abcdefghijklmnopqrstuvwxyz"
DIGITS = "0123456789"
LONGEST_NAME = 12
LATEST_TIME = 1000000


def has_only(text, signs):
    """Whether each sign of the text is among the signs."""
    return all([sign in signs for sign in text])


def is_name(text):
    """Whether the text is a name."""
    if not 1 <= len(text) <= LONGEST_NAME:
        return False
    return text[0] in LETTERS and has_only(text, LETTERS + DIGITS)


def are_names(texts):
    """Whether each of the texts is a name."""
    return all([is_name(text) for text in texts])


def all_differ(texts):
    """Whether no two of the texts are the same."""
    return len(set(texts)) == len(texts)


def name_order(name):
    """What names are ordered by: the length, then the bytes."""
    return (len(name), name)


def are_rising(names):
    """Whether each name comes before the one behind it."""
    return all([name_order(one) < name_order(other) for one, other in zip(names, names[1:])])


def path_from_text(text, most):
    """The names of a path of at most so many names."""
    require_form(text.startswith("/"))
    if text == "/":
        return []
    path = text.split("/")[1:]
    require_form(len(path) <= most and are_names(path))
    return path


def is_time(text):
    """Whether the text is a time, in digits without needless zeros."""
    # The length comes first: Python turns no row of thousands of digits into a number.
    if not 1 <= len(text) <= len(str(LATEST_TIME)) or not has_only(text, DIGITS):
        return False
    return str(int(text)) == text and int(text) <= LATEST_TIME


def time_from_text(text):
    """The time that the text tells."""
    require_form(is_time(text))
    return int(text)
