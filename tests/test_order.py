"""Promises 13 and 14: before and fresh."""

import itertools
import unittest

from tests.helper import ask, last, row_of, text

LETTERS = "abcdefghijklmnopqrstuvwxyz"
SIGNS = "0123456789" + LETTERS
A_TO_Z = " ".join(LETTERS)
FULL_ROW = "".join(" +f%d" % k for k in range(10, 26))


def names_with(length):
    """All names of a length, in their order."""
    for signs in itertools.product(LETTERS, *[SIGNS] * (length - 1)):
        yield "".join(signs)


class Before(unittest.TestCase):
    def rising(self, *requests):
        """Each of the requests comes before all that stand behind it, and is the same as itself."""
        for k, one in enumerate(requests):
            self.assertEqual(last(("before", one, one)), [0], one)
            for other in requests[k + 1:]:
                self.assertEqual(ask(("before", one, other), ("before", other, one)), [[1], [2]], (one, other))

    def test_the_document_s_example(self):
        self.assertEqual(last(("before", "bob read /a @5", "ann read /a/b @0")), [1])

    def test_each_of_the_five_in_their_order(self):
        self.rising("z z /a +z @9", "a a /b @0")
        self.rising("a z / +z @9", "b a / @0")
        self.rising("a a / +z @9", "a b / @0")
        self.rising("a a / +a @9", "a a / +b @0")
        self.rising("a a / +a @8", "a a / +a @9")

    def test_names_of_different_length(self):
        names = ["a", "b", "z", "a0", "a9", "aa", "az", "b0", "zz", "a00", "aaa", "abcdefghijkl", "abcdefghijkm"]
        self.rising(*[name + " x /x +x @5" for name in names])
        self.rising(*["x " + name + " /x +x @5" for name in names])
        self.rising(*["x x /" + name + " +x @5" for name in names])
        self.rising(*["x x /x +" + name + " @5" for name in names])

    def test_paths_of_different_length(self):
        paths = ["/", "/a", "/z", "/aa", "/zzzzzzzzzzzz", "/a/a", "/a/b", "/a/aa", "/b/a", "/aa/a", "/a/a/a",
                 "/a/a/a/a/a", "/b/a/a/a/a", "/a/a/a/a/a/a", "/a/a/a/a/a/b"]
        self.rising(*["x x " + path + " @0" for path in paths])

    def test_rows_of_flags_of_different_length(self):
        rows = ["", " +a", " +z", " +a0", " +zzzzzzzzzzzz", " +a +b", " +a +z", " +a +aa", " +b +c", " +y +aa",
                " +aa +ab", " +a +b +c", FULL_ROW]
        self.rising(*["x x /" + row + " @0" for row in rows])

    def test_times(self):
        self.rising(*["x x / @%d" % time for time in (0, 1, 9, 10, 11, 99, 100, 999999, 1000000)])

    def test_the_same(self):
        for request in ("a a / @0", "abcdefghijkl a1 /a/b/c/d/e/f" + FULL_ROW + " @1000000"):
            self.assertEqual(last(("before", request, request)), [0])

    def test_no_request(self):
        good = "a b / @0"
        for words in ("", " ", "a b /", "a b / @", "a b / @00", "a b / @1000001", " a b / @0", "a b / @0 ",
                      "a b / +d +c @0", "a b /a/b/c/d/e/f/g @0", "a b" + FULL_ROW + " @0", "x" * 8000,
                      "a b /" + FULL_ROW + " +f26 @0"):
            self.assertEqual(ask(("before", words, good), ("before", good, words), ("before", words, words), ("size",)),
                             [[-1], [-1], [-1], [1, 0, 0]], words)
        for byte in (0, 10, 33, 63, 127, 255):
            bad = row_of(good) + [byte]
            self.assertEqual(ask(("before", bad, good), ("before", good, bad)), [[-1], [-1]])

    def test_two_texts_of_8000_bytes(self):
        self.assertEqual(ask(("before", "x" * 8000, "a " * 4000), ("size",)), [[-1], [1, 0, 0]])

    def test_the_object_does_not_count(self):
        calls = [("directory", "user zoe\n"), ("pattern", "user zoe do fly at /q if +x from 7")]
        self.assertEqual(last(*calls, ("before", "zoe fly /q +x @7", "a a /r @0")), [1])


class Fresh(unittest.TestCase):
    def fresh(self, names, expected):
        self.assertEqual(last(("fresh", names)), text(expected), names[:80])

    def refused(self, names):
        self.assertEqual(ask(("fresh", names), ("size",), ("show",)), [[-1], [1, 0, 0], text("user a\n")], names)

    def test_the_document_s_example(self):
        self.fresh("a b d", "c")

    def test_the_empty_text(self):
        self.fresh("", "a")

    def test_few_names(self):
        self.fresh("a", "b")
        self.fresh("b", "a")
        self.fresh("c b a", "d")
        self.fresh("aa a0 a1", "a")
        self.fresh(A_TO_Z[2:], "a")
        self.fresh(A_TO_Z[:-2], "z")

    def test_a_to_z(self):
        self.fresh(A_TO_Z, "a0")
        self.fresh(A_TO_Z[::-1], "a0")
        self.fresh(A_TO_Z + " a0 a1", "a2")
        self.fresh(A_TO_Z + " a0 a2", "a1")
        self.fresh(A_TO_Z + " a1", "a0")
        self.fresh(A_TO_Z + "".join(" a%d" % k for k in range(10)), "aa")
        self.fresh(A_TO_Z + "".join(" a" + sign for sign in SIGNS), "b0")
        self.fresh(A_TO_Z + "".join(" a" + sign for sign in SIGNS[:-1]), "az")

    def test_all_of_two_signs(self):
        two = list(names_with(2))
        self.assertEqual((len(two), two[0], two[-1]), (936, "a0", "zz"))
        self.fresh(" ".join([A_TO_Z] + two), "a00")
        self.fresh(" ".join([A_TO_Z] + two[:-1]), "zz")
        self.fresh(" ".join([A_TO_Z] + two + ["a00", "a01", "a03"]), "a02")

    def test_a_name_twice(self):
        self.fresh("a a", "b")
        self.fresh("a b a b c c", "d")

    def test_12_and_13_bytes(self):
        self.fresh("abcdefghijkl", "a")
        self.fresh("a abcdefghij12 b", "c")
        self.refused("abcdefghijklm")
        self.refused("a abcdefghijklm b")

    def test_blanks(self):
        for names in (" ", "  ", " a", "a ", "a  b", " a b", "a b ", "a b  c"):
            self.refused(names)

    def test_what_is_no_name(self):
        for names in ("A", "1", "a B", "a 1b", "a,b", "a_b", "a-b", "+a", "/a", "a\n", "a\nb", "\n", "a:", "@0", "0"):
            self.refused(names)
        for byte in (0, 9, 10, 13, 33, 63, 127, 160, 255):
            self.refused([byte])
            self.refused(row_of("a b") + [byte])
            self.refused(row_of("a") + [byte] + row_of("b"))

    def test_a_text_of_8000_bytes(self):
        three = list(itertools.islice(names_with(3), 1285))
        names = " ".join([A_TO_Z] + list(names_with(2)) + three[:-1] + ["zzzz"])
        self.assertEqual(len(names), 8000)
        self.fresh(names, three[-1])
        self.assertEqual(three[-1], "azo")
        self.fresh("a " * 3999 + "bc", "b")
        self.refused("a " * 4000)
        self.refused(" " * 8000)
        self.refused("a" * 8000)

    def test_the_object_does_not_count(self):
        self.assertEqual(last(("pattern", "user b do c at /d if +e"), ("fresh", "")), text("a"))


if __name__ == "__main__":
    unittest.main()
