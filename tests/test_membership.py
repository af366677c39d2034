"""Promises 6 and 7: members and groups."""

import unittest

from tests.helper import ask, last, lines, row_of, texts

NESTED = lines("user cid", "user ann", "user bob", "user dan", "group top: mid bob", "group empty:",
               "group low: ann cid", "group mid: low ann", "group over: empty")
CHAIN = lines("user a", "user b", "group g1: g2", "group g2: g3", "group g3: g4", "group g4: g5", "group g5: g6",
              "group g6: g7", "group g7: g8 b", "group g8: a")


class Members(unittest.TestCase):
    def members(self, group, words=NESTED):
        return last(("directory", words), ("members", group))

    def test_members_in_the_directory_s_order(self):
        self.assertEqual(self.members("low"), texts("cid", "ann"))

    def test_groups_within_groups(self):
        self.assertEqual(self.members("mid"), texts("cid", "ann"))
        self.assertEqual(self.members("top"), texts("cid", "ann", "bob"))

    def test_nobody(self):
        self.assertEqual(self.members("empty"), [0])
        self.assertEqual(self.members("over"), [0])

    def test_eight_groups_in_a_chain(self):
        self.assertEqual(self.members("g1", CHAIN), texts("a", "b"))
        self.assertEqual(self.members("g8", CHAIN), texts("a"))

    def test_no_such_group(self):
        for group in ("", " ", "ann", "nobody", "low ", " low", "lo", "loww", "LOW", "low\n", "x" * 8000):
            self.assertEqual(self.members(group), [-3], group)
        for byte in (0, 10, 33, 63, 127, 255):
            self.assertEqual(self.members([byte]), [-3])
            self.assertEqual(self.members(row_of("low") + [byte]), [-3])

    def test_before_any_directory(self):
        self.assertEqual(ask(("members", "a"), ("members", "g")), [[-3], [-3]])

    def test_after_another_directory(self):
        self.assertEqual(ask(("directory", NESTED), ("directory", lines("user bob", "group low: bob")),
                             ("members", "low"), ("members", "mid"))[2:], [texts("bob"), [-3]])


class Groups(unittest.TestCase):
    def groups(self, user, words=NESTED):
        return last(("directory", words), ("groups", user))

    def test_groups_in_the_directory_s_order(self):
        self.assertEqual(self.groups("ann"), texts("top", "low", "mid"))
        self.assertEqual(self.groups("cid"), texts("top", "low", "mid"))
        self.assertEqual(self.groups("bob"), texts("top"))

    def test_in_no_group(self):
        self.assertEqual(self.groups("dan"), [0])

    def test_eight_groups_in_a_chain(self):
        self.assertEqual(self.groups("a", CHAIN), texts("g1", "g2", "g3", "g4", "g5", "g6", "g7", "g8"))
        self.assertEqual(self.groups("b", CHAIN), texts("g1", "g2", "g3", "g4", "g5", "g6", "g7"))

    def test_no_such_user(self):
        for user in ("", " ", "low", "top", "nobody", "ann ", " ann", "an", "annn", "ANN", "ann\n", "x" * 8000):
            self.assertEqual(self.groups(user), [-3], user)
        for byte in (0, 10, 33, 63, 127, 255):
            self.assertEqual(self.groups([byte]), [-3])
            self.assertEqual(self.groups(row_of("ann") + [byte]), [-3])

    def test_before_any_directory(self):
        self.assertEqual(ask(("groups", "a"), ("groups", "b")), [[0], [-3]])

    def test_a_pattern_s_or_a_request_s_user_is_not_one_of_the_directory(self):
        self.assertEqual(ask(("pattern", "user zoe do any at /"), ("fits", 0, "yan read / @0"), ("groups", "zoe"),
                             ("groups", "yan"), ("size",))[2:], [[-3], [-3], [1, 0, 1]])


if __name__ == "__main__":
    unittest.main()
