"""The calls, as they are written in whole numbers, and their answers."""

from requestclasses.directories import DirectoryFault, directory_from_text
from requestclasses.fitting import does_fit, five_things
from requestclasses.held import Held
from requestclasses.names import least_name_beside, names_from_text
from requestclasses.pattern import Pattern
from requestclasses.refusals import NotInDirectory, Refusal
from requestclasses.representatives import counts_of_parts, product, representative_at, representative_of
from requestclasses.request import request_from_text, request_order, text_of_request
from requestclasses.texts import answered_text, answered_texts, text_from_bytes


def answer_directory(held, numbers, texts):
    """0, how many users and groups; or a line and a reason."""
    try:
        directory = directory_from_text(texts[0])
    except DirectoryFault as fault:
        return [fault.line, fault.reason]
    held.directory = directory
    return [0, len(directory.users), len(directory.groups)]


def answer_show(held, numbers, texts):
    """The directory's text."""
    return answered_text(held.directory.text)


def answer_pattern(held, numbers, texts):
    """The new pattern's number."""
    held.add_pattern(Pattern(texts[0]))
    return [len(held.patterns) - 1]


def answer_drop(held, numbers, texts):
    """How many patterns are left."""
    held.drop_pattern(numbers[0])
    return [len(held.patterns)]


def answer_told(held, numbers, texts):
    """The text of a pattern."""
    return answered_text(held.pattern_at(numbers[0]).text)


def answer_members(held, numbers, texts):
    """The users who are in a group."""
    if texts[0] not in held.directory.groups:
        raise NotInDirectory()
    return answered_texts(held.directory.users_in(texts[0]))


def answer_groups(held, numbers, texts):
    """The groups in which a user is."""
    if texts[0] not in held.directory.users:
        raise NotInDirectory()
    return answered_texts(held.directory.groups_with(texts[0]))


def answer_fits(held, numbers, texts):
    """Whether a pattern fits a request, and each of the five things."""
    pattern = held.pattern_at(numbers[0])
    request = request_from_text(texts[0])
    things = five_things(pattern, request, held.directory)
    return [1 if so else 0 for so in [all(things)] + things]


def answer_which(held, numbers, texts):
    """The numbers of the patterns that fit a request."""
    request = request_from_text(texts[0])
    found = [k for k, pattern in enumerate(held.patterns) if does_fit(pattern, request, held.directory)]
    return [len(found)] + found


def answer_represent(held, numbers, texts):
    """The text of a request's representative."""
    request = request_from_text(texts[0])
    return answered_text(text_of_request(representative_of(request, held.told_apart())))


def answer_count(held, numbers, texts):
    """How many representatives, and how many paths, users, actions, rows of flags and times they have."""
    counts = counts_of_parts(held.told_apart())
    return [product(counts)] + counts


def answer_nth(held, numbers, texts):
    """The text of the representative with a number."""
    return answered_text(text_of_request(representative_at(numbers[0], held.told_apart())))


def answer_before(held, numbers, texts):
    """Which of two requests comes before the other, 0 if they are the same."""
    one = request_order(request_from_text(texts[0]))
    other = request_order(request_from_text(texts[1]))
    if one == other:
        return [0]
    return [1 if one < other else 2]


def answer_fresh(held, numbers, texts):
    """The least name that is none of some."""
    return answered_text(least_name_beside(names_from_text(texts[0])))


def answer_size(held, numbers, texts):
    """How many users, groups and patterns."""
    return [len(held.directory.users), len(held.directory.groups), len(held.patterns)]


# Under each call's number: how many whole numbers it has, how many rows, and what answers it.
CALLS = {
    0: (0, 1, answer_directory),
    1: (0, 0, answer_show),
    2: (0, 1, answer_pattern),
    3: (1, 0, answer_drop),
    4: (1, 0, answer_told),
    5: (0, 1, answer_members),
    6: (0, 1, answer_groups),
    7: (1, 1, answer_fits),
    8: (0, 1, answer_which),
    9: (0, 1, answer_represent),
    10: (0, 0, answer_count),
    11: (1, 0, answer_nth),
    12: (0, 2, answer_before),
    13: (0, 1, answer_fresh),
    14: (0, 0, answer_size),
}


class CallReader:
    """Goes through a list of calls, number by number."""

    def __init__(self, calls):
        self.calls = calls
        self.place = 0

    def is_done(self):
        """Whether no call is left."""
        return self.place >= len(self.calls)

    def take_number(self):
        """The whole number that comes next."""
        number = self.calls[self.place]
        self.place += 1
        return number

    def take_text(self):
        """The row that comes next, as a text."""
        length = self.take_number()
        row = self.calls[self.place:self.place + length]
        self.place += length
        return text_from_bytes(row)


def answer_next(held, reader):
    """What the next call answers."""
    call = CALLS[reader.take_number()]
    # All of a call is read ahead of its answer, so that a refused one is passed over whole.
    numbers = [reader.take_number() for k in range(call[0])]
    texts = [reader.take_text() for k in range(call[1])]
    try:
        return call[2](held, numbers, texts)
    except Refusal as refusal:
        return [refusal.number]


def answers(calls):
    """For each call, in order: how many numbers are answered, and then they."""
    held = Held()
    reader = CallReader(calls)
    answered = []
    while not reader.is_done():
        answer = answer_next(held, reader)
        answered.append(len(answer))
        answered.extend(answer)
    return answered
