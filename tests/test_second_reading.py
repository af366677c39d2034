"""The document read a second time, by other means: both readings agree on many texts.

The texts are made by a row of numbers that is the same each time, from faultless ones in
which a few bytes are changed, so that most are a pattern's, a request's or a directory's
or almost one.
"""

import itertools
import random
import re
import unittest

from tests.helper import ask, last, text, texts, words_of

NAME = "[a-z][a-z0-9]{0,11}"
TIME = "(?:0|[1-9][0-9]{0,5}|1000000)"
PATTERN = re.compile(
    "(?:any|(user|group) (NAME)) do (any|NAME(?:,NAME){0,5}) at (?:(/)|((?:/NAME){0,5})(/[*])|((?:/NAME){1,5}))"
    "(?: if((?: [+-]NAME){1,6}))?(?: from (TIME))?(?: to (TIME))?".replace("NAME", NAME).replace("TIME", TIME))
REQUEST = re.compile(
    "(NAME) (NAME) (/|(?:/NAME){1,6})((?: [+]NAME){0,16}) @(TIME)".replace("NAME", NAME).replace("TIME", TIME))
LINE = re.compile("(?:user (NAME)|group (NAME):((?: NAME)*))".replace("NAME", NAME))
SIGNS = " *+,-/019:@abgu\n!A\x7f"


def do_rise(names):
    return names == sorted(set(names), key=lambda name: (len(name), name))


def read_pattern(words):
    """The parts of a pattern's text, or None."""
    found = PATTERN.fullmatch(words)
    if found is None:
        return None
    kind, name, what, root, above, star, alone, wishes, since, until = found.groups()
    actions = what.split(",")
    wishes = (wishes or "").split()
    if len(set(actions)) < len(actions) or ("any" in actions and what != "any"):
        return None
    if not do_rise([wish[1:] for wish in wishes]):
        return None
    path = (above if star else alone or "") + "/"
    return kind, name, None if what == "any" else actions, path, bool(star), wishes, since, until


def read_request(words):
    """The parts of a request's text, or None."""
    found = REQUEST.fullmatch(words)
    if found is None:
        return None
    user, action, path, flags, time = found.groups()
    flags = [flag[1:] for flag in flags.split()]
    return (user, action, path.rstrip("/") + "/", flags, int(time)) if do_rise(flags) else None


def expected_fits(pattern, request, groups_of):
    kind, name, actions, path, star, wishes, since, until = pattern
    user, action, place, flags, time = request
    things = [
        kind is None or (kind == "user" and user == name) or (kind == "group" and name in groups_of.get(user, [])),
        actions is None or action in actions,
        place.startswith(path) if star else place == path,
        all((wish[1:] in flags) == (wish[0] == "+") for wish in wishes),
        (since is None or int(since) <= time) and (until is None or time < int(until)),
    ]
    return [int(all(things))] + [int(thing) for thing in things]


def read_line(line, users, groups):
    """The reason of a line's fault, or None after what it tells is put to the users or groups."""
    if not re.fullmatch("[ -~]*\n", line):
        return 1
    found = LINE.fullmatch(line[:-1])
    members = (found.group(3) or "").split() if found else []
    if not found or len(set(members)) < len(members):
        return 2
    user, group = found.group(1), found.group(2)
    if user and groups:
        return 3
    if (user or group) in users + list(groups):
        return 4
    if len(members) > 12 or (user and len(users) == 12) or (group and len(groups) == 8):
        return 5
    if user:
        users.append(user)
    else:
        groups[group] = members
    return None


def expected_directory(words):
    """The answer to a directory's text, and for each user the groups in which they are."""
    users, groups = [], {}
    rows = re.findall("[^\n]*\n|[^\n]+", words)
    for place, line in enumerate(rows, start=1):
        reason = read_line(line, users, groups)
        if reason:
            return [place, reason], None
    above = {name: {group for group in groups if name in groups[group]} for name in users + list(groups)}
    for name in list(above) * 8:
        above[name] = above[name].union(*[above[group] for group in above[name]])
    for place, group in enumerate(groups, start=len(users) + 1):
        if not set(groups[group]) <= set(above):
            return [place, 6], None
    for place, group in enumerate(groups, start=len(users) + 1):
        if group in above[group]:
            return [place, 7], None
    if not users:
        return [len(rows) + 1, 8], None
    return [0, len(users), len(groups)], {user: [group for group in groups if group in above[user]] for user in users}


def by_length(name):
    return (len(name), name)


def by_place(names):
    return (len(names), [by_length(name) for name in names])


def least_beside(names):
    """The least name that is none of these, out of all names of one sign and of two."""
    letters = "abcdefghijklmnopqrstuvwxyz"
    every = list(letters) + [one + other for one in letters for other in "0123456789" + letters]
    return min(set(every) - set(names), key=by_length)


class Apart:
    """What is told apart by the parts of patterns, and all representatives, written out and sorted."""

    def __init__(self, users, patterns):
        self.users = set(users) | {pattern[1] for pattern in patterns if pattern[0] == "user"}
        self.actions = {action for pattern in patterns for action in pattern[2] or []}
        paths = [tuple(pattern[3].split("/")[1:-1]) for pattern in patterns]
        self.nodes = {()} | {path[:end] for path in paths for end in range(len(path) + 1)}
        self.flags = {wish[1:] for pattern in patterns for wish in pattern[5]}
        self.times = {0} | {int(time) for pattern in patterns for time in pattern[6:] if time is not None}

    def beside(self, node):
        return node + (least_beside([other[-1] for other in self.nodes if other and other[:-1] == node]),)

    def parts(self):
        rows = [row for size in range(len(self.flags) + 1)
                for row in itertools.combinations(sorted(self.flags, key=by_length), size)]
        return (self.nodes | {self.beside(node) for node in self.nodes}, self.users | {least_beside(self.users)},
                self.actions | {least_beside(self.actions)}, rows, self.times)

    def every(self):
        """All representatives as texts, in the order of requests."""
        every = sorted(itertools.product(*self.parts()), key=lambda parts: (
            by_place(parts[0]), by_length(parts[1]), by_length(parts[2]), by_place(parts[3]), parts[4]))
        return [self.told(*parts) for parts in every]

    def told(self, path, user, action, flags, time):
        return " ".join([user, action, "/" + "/".join(path)] + ["+" + flag for flag in flags] + ["@%d" % time])

    def representative(self, request):
        """The text of the representative of the parts of a request."""
        user, action, place, flags, time = request
        path = tuple(place.split("/")[1:-1])
        if path not in self.nodes:
            path = self.beside(max([node for node in self.nodes if path[:len(node)] == node], key=len))
        return self.told(path, user if user in self.users else least_beside(self.users),
                         action if action in self.actions else least_beside(self.actions),
                         [flag for flag in flags if flag in self.flags], max(t for t in self.times if t <= time))


class Maker:
    """Makes texts that are faultless or nearly so."""

    def __init__(self, start):
        self.chance = random.Random(start)

    def pick(self, *choices):
        return self.chance.choice(choices)

    def name(self):
        if self.chance.random() < 0.04:
            return self.pick("abcdefghijkl", "abcdefghijklm")
        return self.pick("a", "a", "b", "b", "ab", "b0", "any", "user", "g", "h")

    def names(self, most):
        return [self.name() for k in range(self.chance.randint(0, most))]

    def time(self):
        if self.chance.random() < 0.04:
            return self.pick("1000000", "1000001", "05", "00")
        return self.pick("0", "1", "2", "5", "10")

    def path(self, most):
        return "".join("/" + name for name in self.names(most))

    def rising(self, most):
        names = sorted(set(self.names(most)), key=lambda name: (len(name), name))
        return names if self.chance.random() < 0.9 else names[::-1]

    def changed(self, words):
        """The text, often with a byte put in, taken out or changed."""
        while words and self.chance.random() < 0.15:
            place = self.chance.randrange(len(words) + 1)
            words = words[:place] + self.pick("", *SIGNS) + words[place + self.pick(0, 1):]
        return words

    def pattern(self):
        words = self.pick("any", "user " + self.name(), "group " + self.name()) + " do "
        words += self.pick("any", self.name(), ",".join(self.names(7))) + " at "
        words += self.pick("/", "/*", self.path(6), self.path(3) + "/*")
        words += self.pick("", " if" + "".join(self.pick(" +", " -") + flag for flag in self.rising(9)))
        return words + self.pick("", " from " + self.time()) + self.pick("", " to " + self.time())

    def request(self):
        flags = "".join(" +" + flag for flag in self.rising(9))
        return "%s %s %s%s @%s" % (self.name(), self.name(), self.path(7) or "/", flags, self.time())

    def directory(self):
        pool = ["u%d" % k for k in range(14)] + ["g%d" % k for k in range(10)]
        users, groups = self.chance.randint(0, 4), self.chance.randint(0, 5)
        if self.chance.random() < 0.2:
            users, groups = self.chance.randint(10, 13), self.chance.randint(6, 9)
        rows = ["user u%d" % k for k in range(users)]
        for k in range(groups):
            most = self.pick(1, 3, 13)
            known = pool[:users] + ["g%d" % other for other in range(k + 1 if self.chance.random() < 0.8 else 0, groups)]
            members = self.chance.sample(known, min(most, len(known)))
            if self.chance.random() < 0.05:
                members.append(self.pick(*pool))
            rows.append(" ".join(["group g%d:" % k] + members))
        if rows and self.chance.random() < 0.1:
            rows.insert(self.chance.randrange(len(rows)), self.pick(*rows))
        return "".join(row + "\n" for row in rows)


class SecondReading(unittest.TestCase):
    def test_patterns_and_requests(self):
        maker = Maker(1)
        directory = "user a\nuser b\nuser ab\ngroup g: a h\ngroup h: b\n"
        groups_of = {"a": ["g"], "b": ["g", "h"]}
        seen = {True: 0, False: 0}
        for k in range(6000):
            told, asked = maker.changed(maker.pattern()), maker.changed(maker.request())
            pattern, request = read_pattern(told), read_request(asked)
            answered = ask(("directory", directory), ("pattern", told), ("told", 0), ("fits", 0, asked),
                           ("pattern", "any do any at /*"), ("fits", 0, asked))
            self.assertEqual(answered[1], [-1] if pattern is None else [0], repr(told))
            self.assertEqual(answered[2], [-2] if pattern is None else text(told), repr(told))
            if request is None:
                self.assertEqual(answered[3], [-2] if pattern is None else [-1], repr(asked))
                self.assertEqual(answered[5], [-1], repr(asked))
            elif pattern is None:
                self.assertEqual(answered[5], [1] * 6, repr(asked))
            else:
                expected = expected_fits(pattern, request, groups_of)
                self.assertEqual(answered[3], expected, repr((told, asked)))
            seen[pattern is not None and request is not None] += 1
        self.assertGreater(min(seen.values()), 400)

    def test_directories(self):
        maker = Maker(2)
        seen = {}
        for k in range(6000):
            words = maker.directory()
            if maker.chance.random() < 0.5:
                words = maker.changed(words)
            expected, groups_of = expected_directory(words)
            seen[expected[1] if expected[0] else 0] = seen.get(expected[1] if expected[0] else 0, 0) + 1
            calls = [("groups", user) for user in groups_of or {}]
            calls += [("members", "g%d" % group) for group in range(expected[2] if groups_of else 0)]
            answered = ask(("directory", words), ("show",), *calls)
            self.assertEqual(answered[0], expected, repr(words))
            self.assertEqual(answered[1], text("user a\n" if groups_of is None else words))
            self.check_both_ways(answered[2:], calls, groups_of or {})
        self.assertEqual(sorted(seen), list(range(9)))

    def test_classes(self):
        maker = Maker(3)
        directory = "user a\nuser b\nuser ab\ngroup g: a h\ngroup h: b\n"
        several = 0
        for k in range(150):
            told = [maker.pattern() for number in range(maker.chance.randint(0, 5))]
            told = [words for words in told if read_pattern(words) is not None]
            calls = [("directory", directory)] + [("pattern", words) for words in told]
            apart = Apart(["a", "b", "ab"], [read_pattern(words) for words in told])
            parts = [len(part) for part in apart.parts()]
            count = last(*calls, ("count",))
            self.assertEqual(count[1:], parts, told)
            if count[0] <= 4000:
                several += len(told) > 1
                self.check_every(calls, apart.every(), maker)
            self.check_represent(calls, apart, maker)
        self.assertGreater(several, 30)

    def check_every(self, calls, every, maker):
        """Some of the representatives by their numbers, the first and the last among them."""
        numbers = [0, len(every) - 1] + [maker.chance.randrange(len(every)) for k in range(150)]
        answered = ask(*calls, ("count",), *[("nth", k) for k in numbers], ("nth", len(every)))[len(calls):]
        self.assertEqual(answered[0][0], len(every))
        self.assertEqual([words_of(answer) for answer in answered[1:-1]], [every[k] for k in numbers])
        self.assertEqual(answered[-1], [-2])

    def check_represent(self, calls, apart, maker):
        """Of some requests the representative, that the patterns fit both, and that it isn't behind."""
        for k in range(20):
            asked = maker.changed(maker.request())
            request = read_request(asked)
            answered = ask(*calls, ("represent", asked), ("which", asked))[len(calls):]
            if request is None:
                self.assertEqual(answered, [[-1], [-1]], asked)
                continue
            expected = apart.representative(request)
            self.assertEqual(words_of(answered[0]), expected, asked)
            further = ask(*calls, ("which", expected), ("represent", expected), ("before", expected, asked))
            self.assertEqual(further[len(calls):],
                             [answered[1], answered[0], [0] if expected == asked else [1]], asked)

    def test_names_that_are_fresh(self):
        maker = Maker(4)
        pool = list("abcdefghijklmnopqrstuvwxyz") + ["a%d" % k for k in range(10)] + ["aa", "ab", "b0", "zz"]
        for k in range(500):
            names = [name for name in pool if maker.chance.random() < 0.97] + [maker.name()]
            maker.chance.shuffle(names)
            words = maker.changed(" ".join(names))
            good = words == "" or re.fullmatch(NAME + "(?: " + NAME + ")*", words)
            self.assertEqual(last(("fresh", words)), text(least_beside(words.split(" "))) if good else [-1], words)

    def check_both_ways(self, answered, calls, groups_of):
        for call, answer in zip(calls, answered):
            if call[0] == "groups":
                self.assertEqual(answer, texts(*groups_of[call[1]]))
            elif answer != [-3]:
                self.assertEqual(answer, texts(*[user for user in groups_of if call[1] in groups_of[user]]))


if __name__ == "__main__":
    unittest.main()
