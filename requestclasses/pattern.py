"""Patterns and their texts."""

from requestclasses.names import all_differ, are_names, are_rising, is_name, path_from_text, time_from_text
from requestclasses.refusals import require_form

MOST_ACTIONS = 6
LONGEST_PATH = 5
MOST_WISHES = 6


class Words:
    """The words of a text, which stand between blanks, taken one after the other."""

    def __init__(self, text):
        self.words = text.split(" ")
        self.place = 0

    def ahead(self):
        """The word that is taken next."""
        # Behind the last one the empty word is seen: no part of a pattern is empty.
        return self.words[self.place] if self.place < len(self.words) else ""

    def take(self):
        """Take one word."""
        word = self.ahead()
        self.place += 1
        return word

    def are_all_taken(self):
        """Whether no word is left."""
        return self.place >= len(self.words)


def name_of_whom(kind, words):
    """The name of the user or the group; of anybody an empty text."""
    if kind == "any":
        return ""
    name = words.take()
    require_form(kind in ("user", "group") and is_name(name))
    return name


def actions_from_word(word):
    """The actions of a pattern, none if any is meant."""
    if word == "any":
        return []
    actions = word.split(",")
    require_form(len(actions) <= MOST_ACTIONS and are_names(actions))
    require_form(all_differ(actions) and "any" not in actions)
    return actions


def path_from_word(word):
    """The path of a pattern, whether or not all below it is meant."""
    if word == "/*":
        return []
    if word.endswith("/*"):
        # Without names the star has one stroke before it, not the path's own and another.
        require_form(word != "//*")
        return path_from_text(word[:-2], LONGEST_PATH)
    return path_from_text(word, LONGEST_PATH)


def wishes_from_words(words):
    """The wishes of a pattern, none if there is no "if"."""
    if words.ahead() != "if":
        return []
    words.take()
    wishes = []
    while words.ahead().startswith("+") or words.ahead().startswith("-"):
        word = words.take()
        wishes.append((word[1:], word[0] == "+"))
    flags = [wish[0] for wish in wishes]
    require_form(1 <= len(flags) <= MOST_WISHES and are_names(flags) and are_rising(flags))
    return wishes


def time_behind(word, words):
    """The time behind the word "from" or "to", or None if that does not stand there."""
    if words.ahead() != word:
        return None
    words.take()
    return time_from_text(words.take())


class Pattern:
    """The pattern of a text; refused if it is none.

    kind is "any", "user" or "group". No actions stand for any. A wish is a flag and
    whether it is wished on. since and until are None where they are not told.
    """

    def __init__(self, text):
        words = Words(text)
        self.text = text
        self.kind = words.take()
        self.name = name_of_whom(self.kind, words)
        require_form(words.take() == "do")
        self.actions = actions_from_word(words.take())
        require_form(words.take() == "at")
        self.below = words.ahead().endswith("/*")
        self.path = path_from_word(words.take())
        self.wishes = wishes_from_words(words)
        self.since = time_behind("from", words)
        self.until = time_behind("to", words)
        require_form(words.are_all_taken())
