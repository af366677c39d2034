"""Promise 8: fits."""

import unittest

from tests.helper import ask, last, lines, row_of

DIRECTORY = lines("user ann", "user bob", "user cid", "group staff: ann", "group all: staff bob", "group none:")
ALL_SO = [1, 1, 1, 1, 1, 1]
FAR = 10 ** 18
SIXTEEN = "".join(" +f%d" % k for k in range(10, 26))


def fits(pattern, request):
    return last(("directory", DIRECTORY), ("pattern", pattern), ("fits", 0, request))


class Fits(unittest.TestCase):
    def so(self, pattern, request):
        self.assertEqual(fits(pattern, request), ALL_SO, (pattern, request))

    def not_so(self, place, pattern, request):
        """Only the thing at the place (1 who, 2 what, 3 where, 4 flags, 5 when) is not so."""
        answer = list(ALL_SO)
        answer[0] = 0
        answer[place] = 0
        self.assertEqual(fits(pattern, request), answer, (pattern, request))

    def test_anybody(self):
        self.so("any do any at /", "ann read / @0")
        self.so("any do any at /", "zoe read / @0")
        self.so("any do any at /", "any any / @0")

    def test_one_user(self):
        self.so("user ann do any at /", "ann read / @0")
        self.not_so(1, "user ann do any at /", "bob read / @0")
        self.not_so(1, "user ann do any at /", "an read / @0")
        self.not_so(1, "user ann do any at /", "annn read / @0")

    def test_a_user_who_is_not_in_the_directory(self):
        self.so("user zoe do any at /", "zoe read / @0")
        self.not_so(1, "user zoe do any at /", "ann read / @0")
        self.not_so(1, "group all do any at /", "zoe read / @0")

    def test_a_user_named_any(self):
        self.so("user any do any at /", "any read / @0")
        self.not_so(1, "user any do any at /", "ann read / @0")

    def test_one_group(self):
        self.so("group staff do any at /", "ann read / @0")
        self.not_so(1, "group staff do any at /", "bob read / @0")
        self.not_so(1, "group none do any at /", "ann read / @0")

    def test_groups_within_groups(self):
        self.so("group all do any at /", "ann read / @0")
        self.so("group all do any at /", "bob read / @0")
        self.not_so(1, "group all do any at /", "cid read / @0")

    def test_a_group_that_is_not_in_the_directory(self):
        self.not_so(1, "group other do any at /", "ann read / @0")
        self.not_so(1, "group other do any at /", "other read / @0")

    def test_groups_are_no_users_and_users_no_groups(self):
        self.not_so(1, "group all do any at /", "staff read / @0")
        self.not_so(1, "group all do any at /", "all read / @0")
        self.not_so(1, "group ann do any at /", "ann read / @0")
        self.not_so(1, "user staff do any at /", "ann read / @0")
        self.so("user staff do any at /", "staff read / @0")

    def test_the_directory_of_now_counts(self):
        other = lines("user bob", "group staff: bob")
        self.assertEqual(
            ask(("pattern", "group staff do any at /"), ("fits", 0, "ann read / @0"), ("directory", DIRECTORY),
                ("fits", 0, "ann read / @0"), ("directory", other), ("fits", 0, "ann read / @0"),
                ("fits", 0, "bob read / @0"))[1:],
            [[0, 0, 1, 1, 1, 1], [0, 3, 3], ALL_SO, [0, 1, 1], [0, 0, 1, 1, 1, 1], ALL_SO])

    def test_actions(self):
        self.so("any do any at /", "ann anything / @0")
        self.so("any do read at /", "ann read / @0")
        self.so("any do read,write,a,b,c,d at /", "ann d / @0")
        self.not_so(2, "any do read,write at /", "ann fly / @0")
        self.not_so(2, "any do read,write at /", "ann rea / @0")
        self.not_so(2, "any do read at /", "ann any / @0")

    def test_a_path_alone(self):
        self.so("any do any at /", "ann read / @0")
        self.so("any do any at /a/b", "ann read /a/b @0")
        self.not_so(3, "any do any at /", "ann read /a @0")
        self.not_so(3, "any do any at /a/b", "ann read /a/b/c @0")
        self.not_so(3, "any do any at /a/b", "ann read /a @0")
        self.not_so(3, "any do any at /a/b", "ann read /b/a @0")

    def test_a_path_with_all_below(self):
        for path in ("/", "/a", "/a/b/c/d/e/f"):
            self.so("any do any at /*", "ann read " + path + " @0")
        for path in ("/a/b", "/a/b/c", "/a/b/a/b/a/b"):
            self.so("any do any at /a/b/*", "ann read " + path + " @0")
        self.so("any do any at /a/b/c/d/e/*", "ann read /a/b/c/d/e/f @0")
        for path in ("/", "/a", "/a/bb", "/a/bb/c", "/b", "/b/a/b", "/aa/b"):
            self.not_so(3, "any do any at /a/b/*", "ann read " + path + " @0")

    def test_wishes(self):
        self.so("any do any at / if +a -b", "ann read / +a @0")
        self.so("any do any at / if +a -b", "ann read / +a +c +d @0")
        self.so("any do any at / if -b", "ann read / @0")
        self.not_so(4, "any do any at / if +a -b", "ann read / @0")
        self.not_so(4, "any do any at / if +a -b", "ann read / +a +b @0")
        self.not_so(4, "any do any at / if +a -b", "ann read / +b @0")
        self.not_so(4, "any do any at / if +a", "ann read / +aa @0")
        self.so("any do any at /", "ann read / +a +b @0")

    def test_both_ends_of_from_and_to(self):
        self.not_so(5, "any do any at / from 10", "ann read / @9")
        self.so("any do any at / from 10", "ann read / @10")
        self.so("any do any at / from 10", "ann read / @1000000")
        self.so("any do any at / to 10", "ann read / @0")
        self.so("any do any at / to 10", "ann read / @9")
        self.not_so(5, "any do any at / to 10", "ann read / @10")
        self.not_so(5, "any do any at / to 10", "ann read / @11")
        self.not_so(5, "any do any at / from 3 to 5", "ann read / @2")
        self.so("any do any at / from 3 to 5", "ann read / @3")
        self.so("any do any at / from 3 to 5", "ann read / @4")
        self.not_so(5, "any do any at / from 3 to 5", "ann read / @5")

    def test_times_at_their_ends(self):
        self.so("any do any at / from 0", "ann read / @0")
        self.not_so(5, "any do any at / to 0", "ann read / @0")
        self.so("any do any at / from 1000000", "ann read / @1000000")
        self.not_so(5, "any do any at / from 1000000", "ann read / @999999")
        self.not_so(5, "any do any at / to 1000000", "ann read / @1000000")
        self.not_so(5, "any do any at / from 5 to 5", "ann read / @5")
        self.not_so(5, "any do any at / from 7 to 5", "ann read / @6")

    def test_several_things_at_once(self):
        pattern = "user ann do read at /a if +x from 5"
        self.assertEqual(fits(pattern, "bob fly /b @4"), [0, 0, 0, 0, 0, 0])
        self.assertEqual(fits(pattern, "ann fly /a @5"), [0, 1, 0, 1, 0, 1])
        self.assertEqual(fits(pattern, "bob read /b +x @4"), [0, 0, 1, 0, 1, 0])
        self.assertEqual(fits(pattern, "ann read /a +x @5"), ALL_SO)

    def test_each_pattern_by_its_number(self):
        calls = [("pattern", "user ann do any at /"), ("pattern", "user bob do any at /")]
        request = "bob read / @0"
        self.assertEqual(ask(*calls, ("fits", 0, request), ("fits", 1, request), ("drop", 0), ("fits", 0, request))[2:],
                         [[0, 0, 1, 1, 1, 1], ALL_SO, [1], ALL_SO])

    def test_numbers_that_no_pattern_has(self):
        for k in (-1, -2, 1, 2, FAR, -FAR):
            self.assertEqual(last(("pattern", "any do any at /*"), ("fits", k, "a b / @0")), [-2], k)
        self.assertEqual(last(("fits", 0, "a b / @0")), [-2])

    def test_2_comes_before_1(self):
        self.assertEqual(last(("pattern", "any do any at /*"), ("fits", 1, "no request")), [-2])
        self.assertEqual(last(("pattern", "any do any at /*"), ("fits", -1, "")), [-2])

    def test_true_and_false_are_not_answered(self):
        for number in fits("any do read at /", "ann write / @0"):
            self.assertIs(type(number), int)


class Requests(unittest.TestCase):
    def request(self, words):
        self.assertEqual(fits("any do any at /*", words), ALL_SO, words)

    def none(self, words):
        self.assertEqual(fits("any do any at /*", words), [-1], words)

    def test_ordinary_ones(self):
        self.request("a b / @0")
        self.request("ann write /a/x/y @12")
        self.request("ann write /a/x/y +guest +night @12")
        self.request("at do /if/from +at +do +if +any @7")

    def test_parts_that_are_missing_or_too_many(self):
        for words in ("", " ", "a", "a b", "a b /", "a b @0", "a / @0", "b / +c @0", "a b / 0", "a b c / @0",
                      "a b / @0 @0", "a b / @0 +c", "a b / / @0", "a b +c / @0", "@0", "a b / +c", "a b / c @0",
                      "/ a b @0", "a b / 10", "a b / +5", "a b / a5", "a b / -5", "a b / @0+5"):
            self.none(words)

    def test_blanks(self):
        for words in (" a b / @0", "a  b / @0", "a b  / @0", "a b /  @0", "a b / @0 ", "a b / @ 0", "a b / + c @0",
                      "a b / +c  @0", "a b / +c  +d @0", "a b / +c+d @0", "a b/ @0", "a b /@0", "a b / +c@0"):
            self.none(words)

    def test_names(self):
        self.request("abcdefghijkl abcdefghijkl /abcdefghijkl +abcdefghijkl @0")
        for words in ("abcdefghijklm b / @0", "a abcdefghijklm / @0", "a b /abcdefghijklm @0",
                      "a b / +abcdefghijklm @0", "A b / @0", "a B / @0", "a b /C @0", "a b / +D @0", "1 b / @0",
                      "a 1 / @0", "a b /1 @0", "a b / +1 @0", "a,b c / @0", "a b,c / @0", "a b_ / @0", "* b / @0"):
            self.none(words)

    def test_paths(self):
        self.request("a b /a/b/c/d/e @0")
        self.request("a b /a/b/c/d/e/f @0")
        for path in ("/a/b/c/d/e/f/g", "//", "/a/", "//a", "/a//b", "a", "a/b", "/*", "/a/*", ""):
            self.none("a b " + path + " @0")

    def test_flags(self):
        self.request("a b /" + SIXTEEN + " @0")
        self.request("a b / +z +a0 +a1 +aa +ab +b0 @0")
        for flags in (SIXTEEN + " +f26", " +b +a", " +a +a", " +aa +b", " +a1 +a0", " +aa +a9", " -a", " +", " ++a",
                      " a", " +a -b", " @a", " +a,+b"):
            self.none("a b /" + flags + " @0")

    def test_times(self):
        for time in ("0", "1", "10", "999999", "1000000"):
            self.request("a b / @" + time)
        for time in ("", "00", "01", "0001000000", "1000001", "1000010", "9999999", "10000000", "-1", "+1", "1.5",
                     "1a", "a", "@1", "1_0", "9" * 7000, "0" * 7000):
            self.none("a b / @" + time)

    def test_bytes_that_no_request_has(self):
        good = "a b /c +d @1"
        for byte in (0, 9, 10, 13, 33, 37, 63, 65, 127, 178, 255):
            self.none(row_of(good) + [byte])
            self.none([byte] + row_of(good))
            self.none(row_of("a") + [byte] + row_of(" b / @0"))
            self.none(row_of("a b / @") + [byte])

    def test_a_text_of_8000_bytes(self):
        self.none("a" * 8000)
        self.none(" " * 8000)
        self.none("a b " + "/c" * 3996 + " @0")
        self.none("a b /" + " +c" * 2664 + " @0")


if __name__ == "__main__":
    unittest.main()
