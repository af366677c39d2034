"""Promises 3 to 5: pattern, drop and told."""

import unittest

from tests.helper import ask, last, row_of, text

FAR = 10 ** 18


def wishes(first, behind):
    """Wishes of the flags f10, f11 .. from the first number to before the one behind."""
    return " if" + "".join(" +f%d" % k for k in range(first, behind))


def pattern_with(flags):
    return ("pattern", "any do any at /" + flags)


class Reading(unittest.TestCase):
    def taken(self, words):
        self.assertEqual(ask(("pattern", words), ("told", 0), ("size",)), [[0], text(words), [1, 0, 1]], words)

    def refused(self, words):
        kept = "user x do y at /z"
        self.assertEqual(ask(("pattern", kept), ("pattern", words), ("size",), ("told", 0), ("told", 1)),
                         [[0], [-1], [1, 0, 1], text(kept), [-2]], words)

    def test_ordinary_ones(self):
        self.taken("any do any at /")
        self.taken("any do read at /a/b")
        self.taken("user ann do read at /*")
        self.taken("group staff do read,write at /a/* if -guest from 10")
        self.taken("any do any at /a/b if +a -b +c from 3 to 70")
        self.taken("any do any at / to 5")

    def test_names_that_are_words_of_the_text(self):
        self.taken("user any do do at /at/*")
        self.taken("user do do at at /do")
        self.taken("group group do user,group at /if if +if from 1 to 1")
        self.taken("group user do from,to at /from from 0")

    def test_whom(self):
        for words in ("", " ", "user", "group", "user do any at /", "ann do any at /", "user  do any at /",
                      "any ann do any at /", "users ann do any at /", "user ann bob do any at /",
                      "Any do any at /", "user Ann do any at /", "user 1 do any at /", "group a,b do any at /",
                      " any do any at /", "any  do any at /"):
            self.refused(words)

    def test_lengths_of_names(self):
        self.taken("user abcdefghijkl do abcdefghijkl at /abcdefghijkl if -abcdefghijkl")
        self.refused("user abcdefghijklm do any at /")
        self.refused("group abcdefghijklm do any at /")
        self.refused("any do abcdefghijklm at /")
        self.refused("any do any at /abcdefghijklm")
        self.refused("any do any at /abcdefghijklm/*")
        self.refused("any do any at / if +abcdefghijklm")

    def test_actions(self):
        self.taken("any do a,b,c,d,e,f at /")
        self.taken("any do f,b,a at /")
        self.taken("any do anyy,a at /")
        for actions in ("", ",", "a,", ",a", "a,,b", "a, b", "a b", "a,a", "a,b,c,a", "any,a", "a,any", "any,any",
                        "a,b,c,d,e,f,g", "A", "1a", "a;b", "a,b,c,d,e,f,a", "*"):
            self.refused("any do " + actions + " at /")
        self.refused("any do at /")
        self.refused("any does a at /")
        self.refused("any a at /")
        self.refused("any do a")
        self.refused("any do")

    def test_paths(self):
        self.taken("any do any at /a/b/c/d/e")
        self.taken("any do any at /a/b/c/d/e/*")
        self.taken("any do any at /*")
        self.taken("any do any at /a/a/a")
        for path in ("", "//", "//*", "/a/", "/a//*", "/a//b", "//a", "a", "a/b", "*", "a/*", "/a*", "/a/*/*", "/*/a",
                     "/*/*", "/a/b/c/d/e/f", "/a/b/c/d/e/f/*", "/a/b/c/d/e/f/g", "/A", "/1", "/a/**", "/ a", "/a /*",
                     "/*/"):
            self.refused("any do any at " + path)
        self.refused("any do any at")
        self.refused("any do any on /")

    def test_wishes(self):
        self.taken("any do any at / if +a -b +c -d +e -f")
        self.taken("any do any at / if -z +a0 -a1 +aa +ab -b0")
        for wish in ("", " ", " a", "  +a", " +a ", " +a  +b", " +", " -", " ++a", " +-a", " +b +a", " +a +a", " +a -a",
                     " -aa +b", " +a1 -a0", " +aa -a1", " +a +b +c +d +e +f +g", " +A", " +1", " +a b", " +a, +b",
                     " *a", " @a", " +a+b"):
            self.refused("any do any at / if" + wish)
        self.refused("any do any at / +a")
        self.refused("any do any at / if if +a")
        self.refused("any do any at / If +a")

    def test_times(self):
        for time in ("0", "1", "10", "999999", "1000000"):
            self.taken("any do any at / from " + time)
            self.taken("any do any at / to " + time)
            self.taken("any do any at / from " + time + " to " + time)
        self.taken("any do any at / from 9 to 3")
        for time in ("", " ", "00", "01", "007", "1000001", "9999999", "10000000", "01000000", "-1", "+1", "-0", "1.0",
                     "1 ", " 1", "a", "1a", "1_0", "@1", "0x1", "1e3", "9" * 7000, "0" * 7000):
            self.refused("any do any at / from " + time)
            self.refused("any do any at / to " + time)

    def test_order_of_the_parts(self):
        for rest in (" to 1 from 2", " from 1 if +a", " to 1 if +a", " from 1 from 2", " to 1 to 2", " from", " to",
                     " from to 1", " from 1 to", " from 1 2", " from 1 to 2 3", " if", " if from 1", " if +a to",
                     " if +a if +b", " till 3", " from 1 to 2 ", " "):
            self.refused("any do any at /" + rest)

    def test_bytes_that_no_pattern_has(self):
        good = "user a do b at /c if +d from 1"
        for byte in (0, 9, 10, 13, 33, 37, 63, 65, 127, 160, 178, 255):
            self.refused(row_of(good) + [byte])
            self.refused([byte] + row_of(good))
            self.refused(row_of("user a") + [byte] + row_of(" do b at /c"))
        self.refused(row_of("user") + [9] + row_of("a do b at /c"))
        self.refused(row_of("any do any at / from ") + [178])

    def test_a_text_of_8000_bytes(self):
        self.refused(" " * 8000)
        self.refused("any do " + "a," * 3990 + "a at /")
        self.refused("any do any at " + "/a" * 3990)
        self.refused("any do any at / if" + " +a" * 2660)


class Limits(unittest.TestCase):
    def test_20_patterns(self):
        calls = [("pattern", "user u%d do any at /" % k) for k in range(20)]
        answered = ask(*calls, ("pattern", "any do any at /"), ("size",), ("told", 19), ("told", 20))
        self.assertEqual(answered[:20], [[k] for k in range(20)])
        self.assertEqual(answered[20:], [[-6], [1, 0, 20], text("user u19 do any at /"), [-2]])

    def test_1_comes_before_6(self):
        calls = [("pattern", "any do any at /")] * 20
        self.assertEqual(ask(*calls, ("pattern", "any do any at"), ("pattern", ""))[20:], [[-1], [-1]])

    def test_the_17th_flag(self):
        sixteen = [pattern_with(wishes(10, 16)), pattern_with(wishes(16, 22)), pattern_with(wishes(22, 26))]
        self.assertEqual(
            ask(*sixteen, pattern_with(" if -f26"), ("size",), ("told", 3), pattern_with(" if -f10 -f25"),
                pattern_with(" if +f10 +f99"), pattern_with("")),
            [[0], [1], [2], [-5], [1, 0, 3], [-2], [3], [-5], [4]])

    def test_several_new_flags_of_one_pattern(self):
        fifteen = [pattern_with(wishes(10, 16)), pattern_with(wishes(16, 22)), pattern_with(wishes(22, 25))]
        self.assertEqual(ask(*fifteen, pattern_with(" if +a +b"), pattern_with(" if +a"), pattern_with(" if -b")),
                         [[0], [1], [2], [-5], [3], [-5]])

    def test_on_and_off_are_one_flag(self):
        calls = [pattern_with(wishes(10, 16)), pattern_with(wishes(16, 22)), pattern_with(wishes(22, 26)),
                 pattern_with(wishes(10, 16).replace("+", "-"))]
        self.assertEqual(last(*calls), [3])

    def test_a_dropped_pattern_tells_no_flags_apart(self):
        sixteen = [pattern_with(wishes(10, 16)), pattern_with(wishes(16, 22)), pattern_with(wishes(22, 26))]
        self.assertEqual(ask(*sixteen, pattern_with(" if +a"), ("drop", 2), pattern_with(" if +a"))[3:],
                         [[-5], [2], [2]])

    def test_6_comes_before_5(self):
        sixteen = [pattern_with(wishes(10, 16)), pattern_with(wishes(16, 22)), pattern_with(wishes(22, 26))]
        rest = [pattern_with("")] * 17
        self.assertEqual(ask(*sixteen, *rest, pattern_with(" if +a"), ("drop", 19), pattern_with(" if +a"))[19:],
                         [[19], [-6], [19], [-5]])


class DropAndTold(unittest.TestCase):
    def setUp(self):
        self.told = ["user u%d do any at /" % k for k in range(4)]
        self.calls = [("pattern", words) for words in self.told]

    def test_told(self):
        self.assertEqual(ask(*self.calls, *[("told", k) for k in range(4)])[4:], [text(words) for words in self.told])

    def test_drop_the_first(self):
        self.check_drop(0, [1, 2, 3])

    def test_drop_one_in_the_middle(self):
        self.check_drop(2, [0, 1, 3])

    def test_drop_the_last(self):
        self.check_drop(3, [0, 1, 2])

    def check_drop(self, k, left):
        answered = ask(*self.calls, ("drop", k), *[("told", place) for place in range(4)])[4:]
        self.assertEqual(answered, [[3]] + [text(self.told[place]) for place in left] + [[-2]])

    def test_numbers_that_no_pattern_has(self):
        for k in (-1, -4, -5, 4, 5, FAR, -FAR):
            answered = ask(*self.calls, ("told", k), ("drop", k), ("size",), ("told", 3))[4:]
            self.assertEqual(answered, [[-2], [-2], [1, 0, 4], text(self.told[3])], k)

    def test_without_patterns(self):
        for k in (-1, 0, 1, FAR, -FAR):
            self.assertEqual(ask(("told", k), ("drop", k)), [[-2], [-2]])

    def test_drop_all_and_begin_anew(self):
        self.assertEqual(ask(*self.calls[:2], ("drop", 0), ("drop", 0), ("drop", 0), self.calls[3], ("told", 0)),
                         [[0], [1], [1], [0], [-2], [0], text(self.told[3])])

    def test_a_pattern_twice(self):
        words = "any do read,write at /a/*"
        self.assertEqual(ask(("pattern", words), ("pattern", words), ("drop", 0), ("told", 0), ("told", 1)),
                         [[0], [1], [1], text(words), [-2]])


if __name__ == "__main__":
    unittest.main()
