"""Promise 15, the document's example, and what the interface says of lists of calls."""

import unittest

from requestclasses.patterns import answers
from tests.helper import ask, lines, taken_apart, text, texts, written

EXAMPLE = lines("user ann", "user bob", "group staff: ann", "group all: staff bob")


class Example(unittest.TestCase):
    def test_the_document_s_example(self):
        one = "group staff do read,write at /a/* if -guest from 10"
        other = "any do read at /a/b"
        self.assertEqual(
            ask(("directory", EXAMPLE), ("pattern", one), ("pattern", other), ("members", "all"),
                ("fits", 0, "ann write /a/x/y @12"), ("fits", 0, "ann write /a/x/y +guest @12"),
                ("fits", 0, "ann read /a/b +guest @3"), ("fits", 1, "ann read /a/b +guest @3"),
                ("groups", "ann"), ("groups", "bob"), ("show",), ("told", 0), ("told", 1), ("size",), ("drop", 0)),
            [[0, 2, 2], [0], [1], texts("ann", "bob"), [1, 1, 1, 1, 1, 1], [0, 1, 1, 1, 0, 1], [0, 1, 1, 1, 0, 0],
             [1, 1, 1, 1, 1, 1], texts("staff", "all"), texts("all"), text(EXAMPLE), text(one), text(other),
             [2, 2, 2], [1]])

    def test_the_document_s_example_of_classes(self):
        self.assertEqual(
            ask(("directory", EXAMPLE), ("pattern", "group staff do read,write at /a/* if -guest from 10"),
                ("pattern", "any do read at /a/b"), ("members", "all"), ("fits", 0, "ann write /a/x/y @12"),
                ("fits", 0, "ann write /a/x/y +guest @12"), ("which", "ann read /a/b +guest @3"), ("count",),
                ("represent", "zoe fly /a/x/y +night @15"), ("nth", 0), ("nth", 1), ("nth", 215), ("nth", 216),
                ("nth", -1), ("fresh", "a b d"), ("before", "bob read /a @5", "ann read /a/b @0"), ("size",)),
            [[0, 2, 2], [0], [1], texts("ann", "bob"), [1, 1, 1, 1, 1, 1], [0, 1, 1, 1, 0, 1], [1, 1],
             [216, 6, 3, 3, 2, 2], text("a a /a/a @10"), text("a a / @0"), text("a a / @10"),
             text("bob write /a/b/a +guest @10"), [-2], [-2], text("c"), [1], [2, 2, 2]])

    def test_the_example_as_whole_numbers(self):
        self.assertEqual(answers([1, 14, 3, 0, 5, 1, 103]), [8, 7, 117, 115, 101, 114, 32, 97, 10, 3, 1, 0, 0, 1, -2,
                                                             1, -3])
        self.assertEqual(answers([0, 0]), [2, 1, 8])
        self.assertEqual(answers([0, 7] + list(b"user b\n") + [1]), [3, 0, 1, 0, 8, 7] + list(b"user b\n"))
        self.assertEqual(answers([2, 15] + list(b"any do any at /") + [7, 0, 8] + list(b"a b / @0") + [4, 0]),
                         [1, 0, 6, 1, 1, 1, 1, 1, 1, 16, 15] + list(b"any do any at /"))
        self.assertEqual(answers([0, 18] + list(b"user a\ngroup g: a\n") + [5, 1, 103, 6, 1, 97]),
                         [3, 0, 1, 1, 3, 1, 1, 97, 3, 1, 1, 103])

    def test_classes_as_whole_numbers(self):
        request = list(b"b c /d @9")
        self.assertEqual(answers([10, 11, 0, 11, 4, 13, 3] + list(b"a c")),
                         [6, 4, 2, 2, 1, 1, 1, 9, 8] + list(b"a a / @0") + [1, -2, 2, 1, 98])
        self.assertEqual(answers([8, 9] + request + [9, 9] + request + [12, 9] + request + [0, 12, 9] + request + [9]
                                 + request),
                         [1, 0, 10, 9] + list(b"b a /a @0") + [1, -1, 1, 0])
        self.assertEqual(answers([2, 16] + list(b"any do any at /*") + [8, 9] + request + [8, 0, 13, 0, 14]),
                         [1, 0, 2, 1, 0, 1, -1, 2, 1, 97, 3, 1, 0, 1])


class Size(unittest.TestCase):
    def test_new(self):
        self.assertEqual(ask(("size",)), [[1, 0, 0]])

    def test_as_things_come_and_go(self):
        pattern = ("pattern", "user zoe do fly at /a if +b")
        self.assertEqual(
            ask(pattern, ("size",), ("directory", EXAMPLE), ("size",), pattern, ("size",), ("drop", 0), ("size",),
                ("directory", "nonsense"), ("size",), ("pattern", "nonsense"), ("size",), ("drop", 1), ("size",)),
            [[0], [1, 0, 1], [0, 2, 2], [2, 2, 1], [1], [2, 2, 2], [1], [2, 2, 1],
             [1, 1], [2, 2, 1], [-1], [2, 2, 1], [-2], [2, 2, 1]])

    def test_refused_calls_leave_all_as_it_was(self):
        pattern = "group staff do read at /a if +x from 3"
        kept = [("show",), ("size",), ("told", 0), ("told", 1), ("count",), ("nth", 7), ("members", "all")]
        refused = [
            ("directory", ""), ("directory", "user zoe"), ("pattern", ""), ("pattern", pattern + " "), ("drop", -1),
            ("drop", 1), ("told", 1), ("members", "ann"), ("groups", "staff"), ("fits", 1, "a b / @0"),
            ("fits", 0, "a b /"), ("which", "a b /"), ("represent", "zoe fly /q"), ("nth", -1), ("nth", 10 ** 18),
            ("before", "a b / @0", "zoe"), ("before", "zoe", "a b / @0"), ("fresh", "a ")]
        answered = ask(("directory", EXAMPLE), ("pattern", pattern), *kept, *refused, *kept)[2:]
        self.assertEqual(answered[:7], answered[-7:])
        self.assertEqual([len(answer) for answer in answered[7:-7]], [2, 2] + [1] * 16)
        self.assertEqual([answer[0] for answer in answered[9:-7]],
                         [-1, -1, -2, -2, -2, -3, -3, -2, -1, -1, -1, -2, -2, -1, -1, -1])


class Lists(unittest.TestCase):
    def setUp(self):
        self.calls = written(
            ("directory", EXAMPLE), ("pattern", "group staff do any at /*"), ("fits", 0, "ann a / @0"),
            ("fits", 0, "nonsense"), ("fits", 3, "ann a / @0"), ("directory", "nonsense"), ("members", "none"),
            ("pattern", "user zoe do fly at /a/b if -x from 5 to 9"), ("which", "ann a / @0"), ("which", "nonsense"),
            ("represent", "zoe a /a/c/d +x +y @7"), ("represent", ""), ("count",), ("nth", 0), ("nth", 20), ("nth", -1),
            ("before", "ann a / @0", "ann a / +x @0"), ("before", "", ""), ("fresh", "b a d"), ("fresh", " "),
            ("told", 0), ("drop", 0), ("drop", 0), ("count",), ("drop", 0), ("show",), ("size",))

    def test_what_is_handed_in_is_not_changed(self):
        kept = list(self.calls)
        answers(self.calls)
        self.assertEqual(self.calls, kept)

    def test_what_is_handed_in_is_not_changed_for_a_while_either(self):
        class Unchangeable(list):
            def refuse(self, *values, **more):
                raise AssertionError("what is handed in is changed")

            append = extend = insert = pop = remove = clear = sort = reverse = refuse
            __setitem__ = __delitem__ = __iadd__ = __imul__ = refuse

        self.assertEqual(answers(Unchangeable(self.calls)), answers(self.calls))

    def test_two_lists_do_not_touch_one_another(self):
        first = answers(self.calls)
        self.assertEqual(answers([1, 14]), [8, 7, 117, 115, 101, 114, 32, 97, 10, 3, 1, 0, 0])
        second = answers(self.calls)
        self.assertEqual(first, second)
        first.append(7)
        first[0] = 99
        self.assertEqual(answers(self.calls), second)

    def test_patterns_are_not_kept(self):
        calls = written(("pattern", "any do any at / if +a +b +c +d +e +f"), ("size",))
        for k in range(25):
            self.assertEqual(answers(calls), [1, 0, 3, 1, 0, 1])

    def test_what_is_told_apart_is_not_kept(self):
        calls = written(("count",), ("pattern", "user zoe do fly at /a if +x from 5"), ("count",), ("nth", 0))
        for k in range(3):
            self.assertEqual(taken_apart(answers(calls)),
                             [[4, 2, 2, 1, 1, 1], [0], [96, 4, 3, 2, 2, 2], text("a a / @0")])

    def test_what_is_answered_are_whole_numbers_in_a_list(self):
        answered = answers(self.calls)
        self.assertIs(type(answered), list)
        self.assertEqual([number for number in answered if type(number) is not int], [])

    def test_a_refused_call_is_passed_over_whole(self):
        self.assertEqual(ask(("fits", 5, "a b / @0"), ("size",), ("fits", -1, ""), ("pattern", ""), ("members", "x y"),
                             ("size",)), [[-2], [1, 0, 0], [-2], [-1], [-3], [1, 0, 0]])


class FullSize(unittest.TestCase):
    def full(self, calls):
        """The list of calls, filled up to 200 calls and 17000 numbers."""
        while len(calls) < 199:
            calls.append(("size",))
        left = 17000 - len(written(*calls)) - 2
        calls.append(("groups", "x" * left))
        numbers = written(*calls)
        self.assertEqual((len(calls), len(numbers)), (200, 17000))
        return numbers

    def test_texts_of_8000_bytes(self):
        calls = [("directory", "x" * 8000), ("fits", 0, "a " * 4000)]
        answered = taken_apart(answers(self.full(calls)))
        self.assertEqual(answered, [[1, 1], [-2]] + [[1, 0, 0]] * 197 + [[-3]])

    def test_a_full_directory_and_full_patterns(self):
        users = ["u%011d" % k for k in range(12)]
        groups = ["g%011d" % k for k in range(8)]
        directory = lines(*["user " + user for user in users],
                          *["group " + groups[k] + ": " + " ".join((groups[k + 1:] + users)[:12]) for k in range(8)])
        flags = ["f%011d" % k for k in range(16)]
        wishes = "".join(" +" + flag for flag in flags[:6])
        path = "/" + "/".join(users[:5])
        pattern = "group " + groups[0] + " do " + ",".join(users[:6]) + " at " + path + "/* if" + wishes
        request = users[11] + " " + users[5] + " " + path + "/a" + "".join(" +" + flag for flag in flags) + " @1000000"
        calls = [("directory", directory)] + [("pattern", pattern + " from 1000000")] * 20
        calls += [("show",), ("told", 19), ("members", groups[0]), ("groups", users[0])]
        calls += [("fits", 19, request)] * 20
        answered = taken_apart(answers(self.full(calls)))
        self.assertEqual(answered[:21], [[0, 12, 8]] + [[k] for k in range(20)])
        self.assertEqual(answered[21:25], [text(directory), text(pattern + " from 1000000"), texts(*users),
                                           texts(*groups)])
        self.assertEqual(answered[25:45], [[1, 1, 1, 1, 1, 1]] * 20)
        self.assertEqual(answered[45:], [[12, 8, 20]] * 154 + [[-3]])

    def test_200_calls_of_one_kind(self):
        request = "zoe fly /a/b/c +x +y @777777"
        for call, answer in ((("nth", 3), text("b a /a @0")), (("represent", request), text("b a /a @0")),
                             (("which", request), [0]), (("before", request, request), [0]),
                             (("fresh", "a b"), text("c")), (("count",), [4, 2, 2, 1, 1, 1])):
            self.assertEqual(ask(*[call] * 200), [answer] * 200)

    def deep(self):
        """A full directory, and 20 patterns about a group, each with a path of its own."""
        users = ["u%d" % k for k in range(12)]
        groups = ["g%d" % k for k in range(8)]
        directory = lines(*["user " + user for user in users],
                          *["group " + groups[k] + ": " + " ".join((groups[k + 1:] + users)[:12]) for k in range(8)])
        paths = ["/p%d/a/a/a/a" % k for k in range(20)]
        return [("directory", directory)] + [("pattern", "group g0 do any at %s/*" % path) for path in paths]

    def test_many_calls_on_a_full_object(self):
        flags = "".join(" +f%d" % k for k in range(10, 26))
        asked = [("which", "u11 a /p19/a/a/a/a/b @0"), ("represent", "zoe fly /p7/a/a/a/a/x" + flags + " @1000000"),
                 ("nth", 2625), ("count",)] * 44
        answered = taken_apart(answers(self.full(self.deep() + asked)))
        self.assertEqual(answered[:21], [[0, 12, 8]] + [[k] for k in range(20)])
        self.assertEqual(answered[21:197], [[1, 19], text("a a /p7/a/a/a/a/a @0"), text("u11 a /p19/a/a/a/a/a @0"),
                                            [2626, 202, 13, 1, 1, 1]] * 44)
        self.assertEqual(answered[197:], [[12, 8, 20]] * 2 + [[-3]])

    def test_many_flags_at_the_most_representatives(self):
        # 2 paths, 2 users, 1 action, 4096 rows of flags, 1 time.
        wishes = ["".join(" +f%d" % k for k in range(first, first + 6)) for first in (10, 16)]
        calls = [("pattern", "any do any at / if" + row) for row in wishes]
        asked = [("nth", 16383 - k) for k in range(197)]
        answered = taken_apart(answers(self.full(calls + asked)))
        self.assertEqual(answered[2], text("b a /a" + "".join(wishes) + " @0"))
        self.assertEqual(answered[3], text("b a /a" + "".join(wishes).replace(" +f10", "") + " @0"))
        self.assertEqual(len(set(map(tuple, answered[2:199]))), 197)
        self.assertEqual(ask(*calls, ("count",), ("nth", 16384))[2:], [[16384, 2, 2, 1, 4096, 1], [-2]])

    def test_as_many_representatives_as_are_numbered(self):
        calls = [("directory", lines("user a", "user b", "user c", "user d")),
                 ("pattern", "any do a,b,c,d at /a/b/c/d if +a +b +c +d from 1 to 2"),
                 ("pattern", "any do any at / from 3 to 4")]
        asked = [("nth", 19999)] * 196
        answered = taken_apart(answers(self.full(calls + asked)))
        self.assertEqual(answered[3:199], [text("e e /a/b/c/d/a +a +b +c +d @4")] * 196)

    def test_before_and_fresh_of_8000_bytes(self):
        calls = [("before", "a " * 4000, "b" * 8000)]
        self.assertEqual(taken_apart(answers(self.full(calls))), [[-1]] + [[1, 0, 0]] * 198 + [[-3]])
        calls = [("fresh", "a " * 3999 + "b"), ("fresh", "b" * 8000)]
        self.assertEqual(taken_apart(answers(self.full(calls))), [text("c"), [-1]] + [[1, 0, 0]] * 197 + [[-3]])


if __name__ == "__main__":
    unittest.main()
