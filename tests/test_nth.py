"""Promise 12: nth."""

import unittest

from tests.helper import ask, last, lines, text, words_of

FAR = 10 ** 18
EXAMPLE = [
    ("directory", lines("user ann", "user bob", "group staff: ann", "group all: staff bob")),
    ("pattern", "group staff do read,write at /a/* if -guest from 10"),
    ("pattern", "any do read at /a/b"),
]
# 10 paths, 5 users, 5 actions, 16 rows of flags, 5 times.
TWENTY_THOUSAND = [
    ("directory", lines("user a", "user b", "user c", "user d")),
    ("pattern", "any do a,b,c,d at /a/b/c/d if +a +b +c +d from 1 to 2"),
    ("pattern", "any do any at / from 3 to 4"),
]
# 202 paths, 11 users, 9 actions: 19998.
JUST_UNDER = [("directory", lines(*["user u%d" % k for k in range(10)]))] + [
    ("pattern", "any do %s at /%s/a/b/c/d/*" % ("any" if k else "a,b,c,d,e,f", letter))
    for k, letter in enumerate("abcdefghijklmnopqrs")] + [("pattern", "any do g,h at /t/a/b/c/d")]
# 2 paths, 2 users, 61 actions, 2 rows of flags, 41 times: 20008. No object has more than 20000 and fewer than this.
JUST_OVER = [
    ("pattern", "any do b%d,c%d,d%d at / if +x from %d to %d" % (k, k, k, k + 1, k + 21)) for k in range(20)]


def all_of(calls, count):
    """The texts of all representatives, by as many lists of calls as it takes."""
    found = []
    for first in range(0, count, 150):
        asked = [("nth", k) for k in range(first, min(first + 150, count))]
        found.extend(words_of(answer) for answer in ask(*calls, *asked)[len(calls):])
    return found


class Example(unittest.TestCase):
    def test_the_document_s_example(self):
        self.assertEqual(
            ask(*EXAMPLE, ("nth", 0), ("nth", 1), ("nth", 215), ("nth", 216), ("nth", -1))[3:],
            [text("a a / @0"), text("a a / @10"), text("bob write /a/b/a +guest @10"), [-2], [-2]])

    def test_the_last_thing_changes_fastest(self):
        expected = ["a a / @0", "a a / @10", "a a / +guest @0", "a a / +guest @10", "a read / @0"]
        self.assertEqual(all_of(EXAMPLE, 5), expected)
        self.assertEqual(words_of(last(*EXAMPLE, ("nth", 11))), "a write / +guest @10")
        self.assertEqual(words_of(last(*EXAMPLE, ("nth", 12))), "ann a / @0")
        self.assertEqual(words_of(last(*EXAMPLE, ("nth", 36))), "a a /a @0")
        self.assertEqual(words_of(last(*EXAMPLE, ("nth", 72))), "a a /b @0")
        self.assertEqual(words_of(last(*EXAMPLE, ("nth", 108))), "a a /a/a @0")
        self.assertEqual(words_of(last(*EXAMPLE, ("nth", 144))), "a a /a/b @0")
        self.assertEqual(words_of(last(*EXAMPLE, ("nth", 180))), "a a /a/b/a @0")


class All(unittest.TestCase):
    def check(self, calls):
        """All come rising, are different, as many as count tells, and each is its own representative."""
        count = last(*calls, ("count",))[0]
        found = all_of(calls, count)
        self.assertEqual(len(set(found)), count)
        for first in range(0, count - 1, 150):
            asked = [("before", found[k], found[k + 1]) for k in range(first, min(first + 150, count - 1))]
            self.assertEqual(ask(*asked), [[1]] * len(asked))
        for first in range(0, count, 150):
            asked = [("represent", words) for words in found[first:first + 150]]
            self.assertEqual(ask(*calls, *asked)[len(calls):], [text(words) for words in found[first:first + 150]])
        self.assertEqual(ask(*calls, ("nth", count), ("nth", -1), ("nth", -count))[len(calls):], [[-2]] * 3)
        return found

    def test_without_patterns(self):
        self.assertEqual(self.check([]), ["a a / @0", "b a / @0", "a a /a @0", "b a /a @0"])

    def test_the_example(self):
        self.check(EXAMPLE)

    def test_all_rows_of_flags_in_their_order(self):
        calls = [("pattern", "any do any at / if +b -aa +ab"), ("pattern", "any do any at /* if +z")]
        rows = ["", " +b", " +z", " +aa", " +ab", " +b +z", " +b +aa", " +b +ab", " +z +aa", " +z +ab", " +aa +ab",
                " +b +z +aa", " +b +z +ab", " +b +aa +ab", " +z +aa +ab", " +b +z +aa +ab"]
        self.assertEqual(self.check(calls)[:16], ["a a /%s @0" % row for row in rows])

    def test_all_paths_in_their_order(self):
        calls = [("pattern", "any do any at " + path) for path in ("/zz/a", "/b/b", "/a0")]
        paths = ["/", "/a", "/b", "/a0", "/zz", "/b/a", "/b/b", "/a0/a", "/zz/a", "/zz/b", "/b/b/a", "/zz/a/a"]
        self.assertEqual(self.check(calls)[::2], ["a a %s @0" % path for path in paths])

    def test_users_actions_and_times_in_their_order(self):
        calls = [("directory", lines("user zoe", "user b1", "user c")), ("pattern", "user aa do zz,b,a at / from 100"),
                 ("pattern", "any do any at / to 20")]
        found = self.check(calls)
        users = [words.split()[0] for words in found[::12]][:5]
        self.assertEqual(users, ["a", "c", "aa", "b1", "zoe"])
        actions = [words.split()[1] for words in found[:12:3]]
        self.assertEqual(actions, ["a", "b", "c", "zz"])
        self.assertEqual(found[:3], ["a a / @0", "a a / @20", "a a / @100"])


class Numbers(unittest.TestCase):
    def test_both_ends(self):
        for k in (-1, -2, 4, 5, 19999, 20000, FAR, -FAR):
            self.assertEqual(ask(("nth", k), ("size",)), [[-2], [1, 0, 0]], k)
        self.assertEqual(ask(("nth", 0), ("nth", 3)), [text("a a / @0"), text("b a /a @0")])

    def test_twenty_thousand(self):
        answered = ask(*TWENTY_THOUSAND, ("count",), ("nth", 0), ("nth", 19999), ("nth", 20000), ("nth", -1),
                       ("nth", FAR), ("nth", -FAR))[3:]
        self.assertEqual(answered, [[20000, 10, 5, 5, 16, 5], text("a a / @0"),
                                    text("e e /a/b/c/d/a +a +b +c +d @4"), [-2], [-2], [-2], [-2]])

    def test_just_under(self):
        answered = ask(*JUST_UNDER, ("count",), ("nth", 19997), ("nth", 19998), ("nth", -1))[len(JUST_UNDER):]
        self.assertEqual(answered, [[19998, 202, 11, 9, 1, 1], text("u9 i /t/a/b/c/d/a @0"), [-2], [-2]])

    def test_just_over_7_comes_before_2(self):
        asked = [("nth", k) for k in (0, 20007, 20008, -1, FAR, -FAR)]
        answered = ask(*JUST_OVER, ("count",), *asked, ("size",))[20:]
        self.assertEqual(answered, [[20008, 2, 2, 61, 2, 41]] + [[-7]] * 6 + [[1, 0, 20]])

    def test_a_drop_makes_it_fewer(self):
        self.assertEqual(ask(*JUST_OVER, ("drop", 19), ("nth", 0), ("nth", 20007))[20:], [[19], text("a a / @0"), [-2]])


if __name__ == "__main__":
    unittest.main()
