"""Promises 9 to 11: which, represent and count."""

import unittest

from tests.helper import ask, last, lines, row_of, text, words_of

DIRECTORY = lines("user ann", "user bob", "group staff: ann", "group all: staff bob")
ONE = "group staff do read,write at /a/* if -guest from 10"
OTHER = "any do read at /a/b"
OBJECT = [("directory", DIRECTORY), ("pattern", ONE), ("pattern", OTHER)]
NO_REQUESTS = (
    "", " ", "a", "a b /", "a b @0", "a b / 0", "a b / @", "a b / @01", "a b / @1000001", " a b / @0", "a b / @0 ",
    "a  b / @0", "a b /a/ @0", "a b /a/b/c/d/e/f/g @0", "a b /* @0", "a b / -c @0", "a b / +d +c @0", "a b / +c +c @0",
    "A b / @0", "abcdefghijklm b / @0", "a b / @0\n", ONE, "x" * 8000, " " * 8000)


def with_patterns(*patterns):
    return [("pattern", pattern) for pattern in patterns]


class Which(unittest.TestCase):
    def which(self, request, *numbers):
        self.assertEqual(last(*OBJECT, ("which", request)), [len(numbers)] + list(numbers), request)

    def test_none_that_fits(self):
        self.which("bob write /a/b @20")
        self.which("ann read / @20")
        self.assertEqual(last(("which", "a b / @0")), [0])

    def test_one_and_several(self):
        self.which("ann read /a/b +guest @3", 1)
        self.which("ann write /a/b @10", 0)
        self.which("ann read /a/b @10", 0, 1)
        self.which("ann read /a/b @9", 1)
        self.which("bob read /a/b @10", 1)

    def test_all_twenty(self):
        calls = with_patterns(*["any do any at /*"] * 20)
        self.assertEqual(last(*calls, ("which", "a b / @0")), [20] + list(range(20)))

    def test_some_of_twenty_rising(self):
        calls = with_patterns(*["user %s do any at /*" % ("a" if k % 3 else "b") for k in range(20)])
        self.assertEqual(last(*calls, ("which", "b b / @0")), [7, 0, 3, 6, 9, 12, 15, 18])

    def test_the_numbers_after_a_drop(self):
        calls = with_patterns("user x do any at /", "any do any at /", "user y do any at /", "any do b at /*")
        asked = ("which", "a b / @0")
        self.assertEqual(ask(*calls, asked, ("drop", 0), asked, ("drop", 0), asked, ("drop", 1), asked)[4:],
                         [[2, 1, 3], [3], [2, 0, 2], [2], [1, 1], [1], [0]])

    def test_the_directory_of_now_counts(self):
        asked = ("which", "bob read /a @10")
        self.assertEqual(ask(*OBJECT, asked, ("directory", lines("user bob", "group staff: bob")), asked)[3:],
                         [[0], [0, 1, 1], [1, 0]])

    def test_each_of_the_five_things_counts(self):
        calls = with_patterns("user ann do read at /a if +x from 5")
        for request, answer in (("ann read /a +x @5", [1, 0]), ("bob read /a +x @5", [0]), ("ann fly /a +x @5", [0]),
                                ("ann read /b +x @5", [0]), ("ann read /a @5", [0]), ("ann read /a +x @4", [0])):
            self.assertEqual(last(*calls, ("which", request)), answer, request)

    def test_no_request(self):
        for words in NO_REQUESTS:
            self.assertEqual(ask(("which", words), ("size",)), [[-1], [1, 0, 0]], words)
        for byte in (0, 10, 33, 63, 127, 255):
            self.assertEqual(last(*OBJECT, ("which", row_of("a b / @0") + [byte])), [-1])


class Represent(unittest.TestCase):
    def represent(self, calls, request, expected):
        """The representative is the expected one; it is its own one, fits alike, and isn't behind the request."""
        answered = ask(*calls, ("represent", request), ("represent", expected), ("before", request, expected),
                       ("which", request), ("which", expected))
        self.assertNotIn([-1], answered)
        answered = answered[len(calls):]
        self.assertEqual(words_of(answered[0]), expected, request)
        self.assertEqual(words_of(answered[1]), expected, request)
        self.assertEqual(answered[2], [0] if request == expected else [2], request)
        self.assertEqual(answered[3], answered[4], request)

    def test_the_document_s_example(self):
        self.represent(OBJECT, "zoe fly /a/x/y +night @15", "a a /a/a @10")

    def test_without_patterns(self):
        self.represent([], "a b /c/d +e @7", "a a /a @0")
        self.represent([], "x b / @1000000", "b a / @0")
        self.represent([], "a a / @0", "a a / @0")

    def test_users(self):
        calls = [("directory", lines("user a", "user zed", "group c: a"))]
        calls += with_patterns("user b do any at /", "group d do any at /", "group c do any at /",
                               "user yan do any at /")
        for user, expected in (("a", "a"), ("zed", "zed"), ("b", "b"), ("yan", "yan"), ("c", "c"), ("d", "c"),
                               ("xyz", "c"), ("z", "c"), ("abcdefghijkl", "c")):
            self.represent(calls, user + " a / @0", expected + " a / @0")

    def test_more_users_than_letters(self):
        letters = "abcdefghijklmnopqrstuvwxyz"
        calls = [("directory", lines(*["user " + letter for letter in letters[:12]]))]
        calls += with_patterns(*["user %s do any at /" % letter for letter in letters[12:]])
        self.represent(calls, "zoe a / @0", "a0 a / @0")
        self.represent(calls + with_patterns("user a0 do any at /"), "zoe a / @0", "a1 a / @0")
        self.represent(calls[:-1], "zoe a / @0", "z a / @0")

    def test_actions(self):
        calls = with_patterns("any do a,c,write at /", "any do any at /", "any do c,any1 at /")
        for action, expected in (("a", "a"), ("c", "c"), ("write", "write"), ("any1", "any1"), ("any", "b"),
                                 ("read", "b"), ("b", "b")):
            self.represent(calls, "a %s / @0" % action, "a %s / @0" % expected)

    def test_more_actions_than_letters(self):
        rows = ("a,b,c,d,e,f", "g,h,i,j,k,l", "m,n,o,p,q,r", "s,t,u,v,w,x", "y,z,a1,a0,a3")
        calls = with_patterns(*["any do %s at /" % row for row in rows])
        self.represent(calls, "a read / @0", "a a2 / @0")

    def test_users_and_actions_are_told_apart_each_by_themselves(self):
        calls = with_patterns("user bob do read at /a")
        self.represent(calls, "read bob / @0", "b a / @0")
        self.represent(calls, "bob read / @0", "bob read / @0")

    def test_paths(self):
        calls = with_patterns("any do any at /a/b/c", "any do any at /b/*", "any do any at /a/d")
        for path, expected in (("/", "/"), ("/a", "/a"), ("/a/b", "/a/b"), ("/a/b/c", "/a/b/c"), ("/b", "/b"),
                               ("/a/d", "/a/d"), ("/c", "/c"), ("/x/y", "/c"), ("/d/a/b/c", "/c"), ("/a/a", "/a/a"),
                               ("/a/x/b", "/a/a"), ("/a/b/x", "/a/b/a"), ("/a/b/d/e/f/g", "/a/b/a"),
                               ("/a/b/c/x/y/z", "/a/b/c/a"), ("/b/b", "/b/a"), ("/b/c/d", "/b/a"), ("/a/d/d", "/a/d/a"),
                               ("/aa", "/c"), ("/a/bb/c", "/a/a")):
            self.represent(calls, "a a %s @0" % path, "a a %s @0" % expected)

    def test_the_longest_paths(self):
        calls = with_patterns("any do any at /a/a/a/a/a/*")
        self.represent(calls, "a a /a/a/a/a/a/b @0", "a a /a/a/a/a/a/a @0")
        self.represent(calls, "a a /a/a/a/a/b/b @0", "a a /a/a/a/a/b @0")
        self.represent(calls, "a a /a/a/a/a/a @0", "a a /a/a/a/a/a @0")
        self.represent(calls, "a a /c/a/a/a/a/a @0", "a a /b @0")

    def test_a_node_with_twenty_below_it(self):
        calls = with_patterns(*["any do any at /x/%s" % letter for letter in "abcdefghijklmnopqrst"])
        self.represent(calls, "a a /x/z @0", "a a /x/u @0")
        self.represent(calls, "a a /x/t @0", "a a /x/t @0")
        self.represent(calls, "a a /x/t/x @0", "a a /x/t/a @0")
        self.represent(calls, "a a /y @0", "a a /a @0")

    def test_flags(self):
        calls = with_patterns("any do any at / if +b -d", "any do any at /a if +b -aa")
        for flags, expected in (("", ""), (" +b", " +b"), (" +d", " +d"), (" +a +b +c +d +aa", " +b +d +aa"),
                                (" +a +c +ab", ""), (" +a", ""), (" +aa", " +aa")):
            self.represent(calls, "a a /%s @0" % flags, "a a /%s @0" % expected)

    def test_sixteen_flags_of_which_all_are_told_apart(self):
        rows = [["f%d" % k for k in range(first, min(first + 6, 26))] for first in (10, 16, 22)]
        calls = with_patterns(*["any do any at / if" + "".join(" -" + flag for flag in row) for row in rows])
        flags = "".join(" +f%d" % k for k in range(10, 26))
        self.represent(calls, "a a /%s @3" % flags, "a a /%s @0" % flags)

    def test_times(self):
        calls = with_patterns("any do any at / from 10 to 20", "any do any at / to 15", "any do any at / from 1000000")
        for time, expected in ((0, 0), (1, 0), (9, 0), (10, 10), (11, 10), (14, 10), (15, 15), (16, 15), (19, 15),
                               (20, 20), (21, 20), (999999, 20), (1000000, 1000000)):
            self.represent(calls, "a a / @%d" % time, "a a / @%d" % expected)

    def test_times_of_a_pattern_that_fits_no_time(self):
        calls = with_patterns("any do any at / from 20 to 10")
        self.represent(calls, "a a / @15", "a a / @10")
        self.represent(calls, "a a / @25", "a a / @20")

    def test_drops_and_directories_change_it(self):
        request = ("represent", "zoe fly /a/b +x @9")
        calls = with_patterns("user zoe do fly at /a/b if +x to 5")
        self.assertEqual(
            ask(*calls, request, ("directory", lines("user b", "user zoe")), request, ("drop", 0), request,
                ("directory", "user b\n"), request, ("directory", "nonsense"), request, ("drop", 0), request)[1:],
            [text("zoe fly /a/b +x @5"), [0, 2, 0], text("zoe fly /a/b +x @5"), [0], text("zoe a /a @0"), [0, 1, 0],
             text("a a /a @0"), [1, 1], text("a a /a @0"), [-2], text("a a /a @0")])

    def test_no_request(self):
        for words in NO_REQUESTS:
            self.assertEqual(ask(("represent", words), ("size",)), [[-1], [1, 0, 0]], words)
        for byte in (0, 10, 33, 63, 127, 255):
            self.assertEqual(last(*OBJECT, ("represent", row_of("a b / @0") + [byte])), [-1])


class Count(unittest.TestCase):
    def count(self, calls, *parts):
        product = 1
        for part in parts:
            product *= part
        self.assertEqual(last(*calls, ("count",)), [product] + list(parts))

    def test_without_patterns(self):
        self.count([], 2, 2, 1, 1, 1)
        self.assertEqual(last(("count",)), [4, 2, 2, 1, 1, 1])

    def test_the_document_s_example(self):
        self.assertEqual(last(*OBJECT, ("count",)), [216, 6, 3, 3, 2, 2])

    def test_a_pattern_that_tells_nothing_apart(self):
        for pattern in ("any do any at /", "any do any at /*", "group g do any at /*", "user a do any at /",
                        "any do any at / from 0", "any do any at / to 0", "any do any at / from 0 to 0"):
            self.count(with_patterns(pattern), 2, 2, 1, 1, 1)

    def test_each_of_the_five(self):
        self.count(with_patterns("any do any at /a/b/c"), 8, 2, 1, 1, 1)
        self.count(with_patterns("any do any at /a/b/c/*"), 8, 2, 1, 1, 1)
        self.count(with_patterns("user b do any at /"), 2, 3, 1, 1, 1)
        self.count(with_patterns("any do b,c at /"), 2, 2, 3, 1, 1)
        self.count(with_patterns("any do any at / if +b -c"), 2, 2, 1, 4, 1)
        self.count(with_patterns("any do any at / from 1 to 5"), 2, 2, 1, 1, 3)

    def test_what_is_told_twice_counts_once(self):
        self.count(with_patterns("any do any at /a/b", "any do any at /a/b/*", "any do any at /a/c"), 8, 2, 1, 1, 1)
        self.count(with_patterns("any do any at /b/a", "any do any at /a/b"), 10, 2, 1, 1, 1)
        self.count(with_patterns("user a do any at /", "user b do any at /", "user b do any at /"), 2, 3, 1, 1, 1)
        self.count(with_patterns("any do a,b at /", "any do b,c at /", "any do any at /"), 2, 2, 4, 1, 1)
        self.count(with_patterns("any do any at / if +a -b", "any do any at / if -a +c"), 2, 2, 1, 8, 1)
        self.count(with_patterns("any do any at / from 5 to 7", "any do any at / from 7 to 5"), 2, 2, 1, 1, 3)

    def test_sixteen_flags_and_twenty_patterns(self):
        patterns = []
        for k in range(20):
            wishes = "".join(" +f%d" % flag for flag in range(10 + k % 11, 16 + k % 11))
            actions = ",".join("b%d" % (6 * k + place) for place in range(6))
            path = "".join("/p%dx%d" % (k, place) for place in range(5))
            times = " from %d to %d" % (k + 1, 1000000 - k)
            patterns.append("user u%d do %s at %s/* if%s%s" % (k, actions, path, wishes, times))
        users = [("directory", lines(*["user w%d" % k for k in range(12)]))]
        self.count(users + with_patterns(*patterns), 202, 33, 121, 65536, 41)

    def test_a_drop_changes_it(self):
        calls = OBJECT + with_patterns("user zoe do fly at /b if +x to 3")
        self.count(calls, 8, 4, 4, 4, 3)
        self.count(calls + [("drop", 0)], 8, 4, 3, 2, 2)
        self.count(calls + [("drop", 1)], 6, 4, 4, 4, 3)
        self.count(calls + [("drop", 2)], 6, 3, 3, 2, 2)
        self.count(calls + [("drop", 0), ("drop", 0), ("drop", 0)], 2, 3, 1, 1, 1)

    def test_a_new_directory_changes_it(self):
        calls = with_patterns("user zoe do any at /", "group g do any at /")
        self.count(calls, 2, 3, 1, 1, 1)
        self.count(calls + [("directory", lines("user zoe"))], 2, 2, 1, 1, 1)
        self.count(calls + [("directory", lines("user zoe", "user b", "group g: b", "group h:"))], 2, 3, 1, 1, 1)
        self.count(calls + [("directory", lines("user x", "user y", "user z"))], 2, 5, 1, 1, 1)

    def test_a_refused_call_does_not_change_it(self):
        calls = OBJECT + [("directory", "user"), ("pattern", "any do fly at"), ("drop", 2), ("which", ""),
                          ("represent", "zoe fly"), ("nth", 216), ("before", "", ""), ("fresh", " ")]
        self.count(calls, 6, 3, 3, 2, 2)

    def test_asking_does_not_change_it(self):
        request = "zoe fly /q/r +s @77"
        calls = OBJECT + [("which", request), ("represent", request), ("fits", 0, request), ("nth", 3), ("count",),
                          ("before", request, request), ("fresh", "a b"), ("members", "all"), ("groups", "ann")]
        self.count(calls, 6, 3, 3, 2, 2)


if __name__ == "__main__":
    unittest.main()
