"""Promise 3, as far as knows, follows, open, shared, own and tells go."""

import unittest

from tests.lines import ask, claim, last

A = claim(3, lambda a, b, c: a)
B = claim(3, lambda a, b, c: b)
C = claim(3, lambda a, b, c: c)
ALL = 255


class Knows(unittest.TestCase):
    def test_each_person(self):
        got = ask(("begin", 3, 3, 6), ("learn", 0, A), ("learn", 1, B | C), ("knows", 0), ("knows", 1))
        self.assertEqual(got[3:], [[A, 4], [B | C, 6]])

    def test_one_world(self):
        self.assertEqual(last(("begin", 4, 15, 0), ("learn", 0, 1), ("knows", 0)), [1, 1])


class FollowsAndOpen(unittest.TestCase):
    def test_each_claim_over_two_letters(self):
        for known in range(1, 16):
            start = [("begin", 2, 3, 3), ("learn", 1, known)]
            for q in range(16):
                inside = known & ~q == 0
                outside = known & q == 0
                with self.subTest(known=known, q=q):
                    got = ask(*start, ("follows", 1, q), ("is_open", 1, q))
                    self.assertEqual(got[2:], [[1 if inside else 0], [1 if inside else 0 if outside else 2]])

    def test_each_person_by_what_they_know(self):
        got = ask(("begin", 3, 7, 7), ("learn", 0, A & B), ("follows", 0, A), ("follows", 1, A), ("is_open", 0, A),
                  ("is_open", 1, A), ("is_open", 0, ALL ^ B), ("is_open", 0, C))
        self.assertEqual(got[2:], [[1], [0], [1], [2], [0], [2]])

    def test_one_who_knows_but_one_world(self):
        got = ask(("begin", 2, 3, 3), ("learn", 0, 4), *[("is_open", 0, 1 << world) for world in range(4)])
        self.assertEqual(got[2:], [[0], [0], [1], [0]])

    def test_always_and_never(self):
        got = ask(("begin", 2, 0, 3), ("follows", 0, 15), ("follows", 0, 0), ("is_open", 0, 15), ("is_open", 0, 0))
        self.assertEqual(got[1:], [[1], [0], [1], [0]])


class SharedAndOwn(unittest.TestCase):
    def test_each_pair_of_sets(self):
        for a in range(16):
            for b in range(16):
                with self.subTest(a=a, b=b):
                    got = ask(("begin", 4, a, b), ("own", 0), ("own", 1), ("shared",))
                    self.assertEqual(got[1:], [[a], [b], [a & b]])


class Tells(unittest.TestCase):
    def test_each_set_of_letters(self):
        start = [("begin", 3, 7, 7), ("learn", 0, A & (B | C)), ("learn", 1, A ^ B ^ C)]
        for s, told in ((0, ALL), (1, A), (2, ALL), (4, ALL), (3, A), (5, A), (6, B | C), (7, A & (B | C))):
            with self.subTest(s=s):
                self.assertEqual(last(*start, ("tells", 0, s)), [told])
        for s in range(7):
            self.assertEqual(last(*start, ("tells", 1, s)), [ALL])
        self.assertEqual(last(*start, ("tells", 1, 7)), [A ^ B ^ C])

    def test_no_letter_shared(self):
        got = ask(("begin", 2, 1, 2), ("learn", 0, 10), ("tells", 0, 0), ("tells", 1, 0), ("tells", 0, 1), ("tells", 0, 2))
        self.assertEqual(got[2:], [[15], [15], [-62], [-62]])

    def test_what_is_told_is_what_tells_says(self):
        start = [("begin", 3, 7, 6), ("learn", 0, A & B | C)]
        for s in (0, 2, 4, 6):
            with self.subTest(s=s):
                said = last(*start, ("tells", 0, s))
                self.assertEqual(last(*start, ("tellof", 0, s)), said * 2)


if __name__ == "__main__":
    unittest.main()
