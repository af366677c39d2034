"""Requests and their texts."""

from requestclasses.names import are_names, are_rising, path_from_text, time_from_text
from requestclasses.refusals import require_form

LONGEST_PATH = 6
MOST_FLAGS = 16


class Request:
    """Who asks for what, where, under which flags, and when."""

    def __init__(self, user, action, path, flags, time):
        self.user = user
        self.action = action
        self.path = path
        self.flags = flags
        self.time = time


def flags_from_words(words):
    """The flags that are on, from a word with + for each."""
    flags = [word[1:] for word in words]
    require_form(all([word.startswith("+") for word in words]))
    require_form(len(flags) <= MOST_FLAGS and are_names(flags) and are_rising(flags))
    return flags


def request_from_text(text):
    """The request of a text; refused if it is none."""
    words = text.split(" ")
    require_form(len(words) >= 4 and are_names(words[:2]))
    path = path_from_text(words[2], LONGEST_PATH)
    flags = flags_from_words(words[3:-1])
    require_form(words[-1].startswith("@"))
    time = time_from_text(words[-1][1:])
    return Request(words[0], words[1], path, flags, time)
