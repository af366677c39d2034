"""Promises 1 and 2: directory and show."""

import unittest

from tests.helper import ask, last, lines, row_of, text

USERS = ["u%d" % k for k in range(1, 14)]
TWELVE_USERS = ["user " + name for name in USERS[:12]]
EIGHT_GROUPS = ["group g%d:" % k for k in range(1, 9)]


class Accepted(unittest.TestCase):
    def accept(self, words, users, groups):
        self.assertEqual(ask(("directory", words), ("show",), ("size",)),
                         [[0, users, groups], text(words), [users, groups, 0]])

    def test_before_any_directory(self):
        self.assertEqual(ask(("show",), ("size",)), [text("user a\n"), [1, 0, 0]])

    def test_one_user(self):
        self.accept("user ann\n", 1, 0)

    def test_users_and_groups(self):
        self.accept(lines("user ann", "user bob", "group staff: ann", "group all: staff bob"), 2, 2)

    def test_group_without_members(self):
        self.accept(lines("user a", "group none:"), 1, 1)

    def test_group_that_comes_later_is_a_member(self):
        self.accept(lines("user a", "group one: two", "group two: a"), 1, 2)

    def test_names_of_1_and_of_12_bytes(self):
        self.accept(lines("user a", "user abcdefghij12", "group z: abcdefghij12"), 2, 1)

    def test_names_that_are_words_of_the_text(self):
        self.accept(lines("user user", "user group2", "group group: user group2", "group user2: group"), 2, 2)

    def test_12_users_8_groups_12_members(self):
        members = "".join(" " + name for name in USERS[:12])
        groups = ["group g%d:%s" % (k, members) for k in range(1, 9)]
        self.accept(lines(*TWELVE_USERS, *groups), 12, 8)

    def test_group_is_reached_twice_but_not_from_itself(self):
        self.accept(lines("user a", "group top: left right", "group left: low", "group right: low",
                          "group low: a"), 1, 4)

    def test_the_later_one_holds(self):
        self.assertEqual(ask(("directory", "user b\nuser c\n"), ("directory", "user d\n"), ("show",)),
                         [[0, 2, 0], [0, 1, 0], text("user d\n")])

    def test_the_patterns_stay(self):
        told = "group g do any at /*"
        self.assertEqual(ask(("pattern", told), ("directory", "user b\n"), ("told", 0), ("size",)),
                         [[0], [0, 1, 0], text(told), [1, 0, 1]])


class Faults(unittest.TestCase):
    def fault(self, words, line, reason):
        """The fault is answered, and all is as it was, beside the first directory and another."""
        other = lines("user ann", "user bob", "group staff: ann")
        pattern = "group staff do any at /"
        self.assertEqual(ask(("directory", words), ("show",), ("size",)),
                         [[line, reason], text("user a\n"), [1, 0, 0]], words)
        self.assertEqual(
            ask(("directory", other), ("pattern", pattern), ("directory", words), ("show",), ("size",),
                ("members", "staff"), ("told", 0)),
            [[0, 2, 1], [0], [line, reason], text(other), [2, 1, 1], [1, 3, 97, 110, 110], text(pattern)], words)

    def test_reason_1_not_ended(self):
        self.fault("user ann", 1, 1)
        self.fault("user ann\nuser bob", 2, 1)
        self.fault("user ann\n ", 2, 1)
        self.fault("u", 1, 1)

    def test_reason_1_not_ended_comes_before_its_other_reasons(self):
        self.fault("user ann\nuser ann", 2, 1)
        self.fault("user ann\nnonsense", 2, 1)
        self.fault(lines("user ann", "group g:") + "user bob", 3, 1)

    def test_reason_1_a_byte_that_is_no_sign(self):
        for byte in (0, 1, 9, 11, 13, 31, 127, 128, 194, 255):
            self.fault(row_of("user a\nuser b") + [byte, 10], 2, 1)
            self.fault([byte] + row_of("user a\n"), 1, 1)

    def test_the_first_and_the_last_sign_are_signs(self):
        for byte in (32, 33, 37, 63, 64, 65, 90, 126):
            self.fault(row_of("user a\nuser b") + [byte, 10], 2, 2)

    def test_reason_2_empty_lines(self):
        self.fault("\n", 1, 2)
        self.fault("user a\n\n", 2, 2)
        self.fault("user a\n\nuser b\n", 2, 2)

    def test_reason_2_user(self):
        for line in ("", " ", "user", "user ", "user  a", " user a", "user a ", "user a b", "User a", "user A",
                     "user 1a", "user a_", "user a-b", "user abcdefghijklm", "users a", "user a:", "usera",
                     "user~a"):
            self.fault(lines(line), 1, 2)

    def test_reason_2_group(self):
        for line in ("group", "group ", "group g", "group :", "group  g:", "group g :", "group g:a", "group g: ",
                     "group g:  a", "group g: a  b", "group g: a ", "group g: a,b", "group g: a:", "group g:: a",
                     "group g h: a", "group G: a", "group g: A", "group 1g:", "group abcdefghijklm:", "groupg:",
                     "group g: abcdefghijklm", "group g: 1", " group g:", "group: a", "group g: a: b"):
            self.fault(lines("user a", "user b", line), 3, 2)

    def test_reason_2_a_member_twice(self):
        self.fault(lines("user a", "user b", "group g: a b a"), 3, 2)
        self.fault(lines("user a", "group g: x x"), 2, 2)

    def test_reason_3(self):
        self.fault(lines("user a", "group g: a", "user b"), 3, 3)
        self.fault(lines("group g:", "user a"), 2, 3)

    def test_reason_3_comes_before_4_and_5(self):
        self.fault(lines("user a", "group g: a", "user a"), 3, 3)
        self.fault(lines("user a", "group g: a", "user g"), 3, 3)
        self.fault(lines(*TWELVE_USERS, "group g:", "user u13"), 14, 3)

    def test_reason_4(self):
        self.fault(lines("user a", "user b", "user a"), 3, 4)
        self.fault(lines("user a", "user b", "group b: a"), 3, 4)
        self.fault(lines("user a", "group g: a", "group g:"), 3, 4)

    def test_a_member_named_before_is_not_yet_a_name_that_stands(self):
        self.assertEqual(last(("directory", lines("user a", "group g: h", "group h: a"))), [0, 1, 2])

    def test_reason_4_comes_before_5(self):
        self.fault(lines(*TWELVE_USERS, "user u1"), 13, 4)
        self.fault(lines("user a", *EIGHT_GROUPS, "group g1:"), 10, 4)
        self.fault(lines(*TWELVE_USERS, "group u1: " + " ".join(USERS)), 13, 4)

    def test_reason_5_users(self):
        self.fault(lines(*TWELVE_USERS, "user u13"), 13, 5)

    def test_reason_5_groups(self):
        self.fault(lines("user a", *EIGHT_GROUPS, "group g9:"), 10, 5)

    def test_reason_5_members(self):
        self.fault(lines("user a", "group g: " + " ".join(USERS)), 2, 5)

    def test_reason_2_comes_before_5(self):
        self.fault(lines("user a", "group g: " + " ".join(USERS + ["u1"])), 2, 2)

    def test_reason_6(self):
        self.fault(lines("user a", "group g: a b"), 2, 6)
        self.fault(lines("user a", "user b", "group g: h", "group h: b", "group i: a c", "group j: d"), 5, 6)

    def test_reason_7(self):
        self.fault(lines("user a", "group g: g"), 2, 7)
        self.fault(lines("user a", "group g: h", "group h: i a", "group i: g"), 2, 7)

    def test_reason_7_is_of_the_circle_not_of_what_leads_to_it(self):
        self.fault(lines("user a", "group out: g", "group g: a h", "group h: g"), 3, 7)
        self.fault(lines("user a", "group one: two", "group two: two"), 3, 7)

    def test_reason_8(self):
        self.fault("", 1, 8)
        self.fault("group g:\n", 2, 8)
        self.fault(lines("group g:", "group h: g"), 3, 8)

    def test_the_first_line_with_one_of_1_to_5_counts(self):
        self.fault(lines("user a", "user a", "nonsense"), 2, 4)
        self.fault(lines("user a", "nonsense", "user a"), 2, 2)
        self.fault("user a\nuser a\nuser b", 2, 4)
        self.fault(lines("group g:", "user a", "what"), 2, 3)
        self.fault(row_of("what\n") + [7, 10], 1, 2)

    def test_1_to_5_come_before_6_to_8_of_earlier_lines(self):
        self.fault(lines("user a", "group g: x", "group g:"), 3, 4)
        self.fault(lines("user a", "group g: g", "nonsense"), 3, 2)
        self.fault("group g:\nx", 2, 1)

    def test_6_comes_before_7_of_earlier_lines_and_7_before_8(self):
        self.fault(lines("user a", "group g: g", "group h: x"), 3, 6)
        self.fault(lines("group g: x"), 1, 6)
        self.fault(lines("group g:", "group h: h"), 2, 7)

    def test_a_text_of_8000_bytes(self):
        self.fault("\n" * 8000, 1, 2)
        self.fault("x" * 8000, 1, 1)
        self.fault("user " + "a" * 7994 + "\n", 1, 2)
        members = []
        for one in "abcdefghijklmnopqrstuvwxyz":
            for other in "abcdefghijklmnopqrstuvwxyz":
                members.append(one + other)
        words = "user a\ngroup g: " + " ".join(members) + "\n"
        self.fault(words, 2, 5)
        self.fault(words[:-1] + " aa\n", 2, 2)


if __name__ == "__main__":
    unittest.main()
