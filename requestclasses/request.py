"""Requests, their texts and their order."""

from requestclasses.names import are_names, are_rising, name_order, path_from_text, row_order, time_from_text
from requestclasses.refusals import require_form

LONGEST_PATH = 6
MOST_FLAGS = 16


class Request:
    """Who asks for what, where, under which flags, and when."""

    def __init__(self, user, action, path, flags, time):
        self.user = user
        self.action = action
        self.path = path
        self.flags = flags
        self.time = time


def flags_from_words(words):
    """The flags that are on, from a word with + for each."""
    flags = [word[1:] for word in words]
    require_form(all([word.startswith("+") for word in words]))
    require_form(len(flags) <= MOST_FLAGS and are_names(flags) and are_rising(flags))
    return flags


def request_from_text(text):
    """The request of a text; refused if it is none."""
    words = text.split(" ")
    require_form(len(words) >= 4 and are_names(words[:2]))
    path = path_from_text(words[2], LONGEST_PATH)
    flags = flags_from_words(words[3:-1])
    require_form(words[-1].startswith("@"))
    time = time_from_text(words[-1][1:])
    return Request(words[0], words[1], path, flags, time)


def text_of_path(path):
    """The text of a path."""
    return "/" if len(path) == 0 else "".join(["/" + name for name in path])


def text_of_request(request):
    """The text of a request."""
    words = [request.user, request.action, text_of_path(request.path)]
    words.extend(["+" + flag for flag in request.flags])
    words.append("@" + str(request.time))
    return " ".join(words)


def request_order(request):
    """What requests are ordered by."""
    return (
        row_order(request.path),
        name_order(request.user),
        name_order(request.action),
        row_order(request.flags),
        request.time,
    )
