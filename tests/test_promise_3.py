"""Promise 3: knows, follows, open, shared, own, tells, news, would, both, common, agreed."""

import unittest

from tests.lines import ask, claim, last

A = claim(3, lambda a, b, c: a)
B = claim(3, lambda a, b, c: b)
C = claim(3, lambda a, b, c: c)
ALL = 255


class Knows(unittest.TestCase):
    def test_each_person(self):
        got = ask(("begin", 3, 3, 6), ("learn", 0, A), ("learn", 1, B | C), ("knows", 0), ("knows", 1))
        self.assertEqual(got[3:], [[A, 4], [B | C, 6]])

    def test_one_world(self):
        self.assertEqual(last(("begin", 4, 15, 0), ("learn", 0, 1), ("knows", 0)), [1, 1])


class FollowsAndOpen(unittest.TestCase):
    def test_each_claim_over_two_letters(self):
        for known in range(1, 16):
            start = [("begin", 2, 3, 3), ("learn", 1, known)]
            for q in range(16):
                inside = known & ~q == 0
                outside = known & q == 0
                with self.subTest(known=known, q=q):
                    got = ask(*start, ("follows", 1, q), ("is_open", 1, q))
                    self.assertEqual(got[2:], [[1 if inside else 0], [1 if inside else 0 if outside else 2]])

    def test_each_person_by_what_they_know(self):
        got = ask(("begin", 3, 7, 7), ("learn", 0, A & B), ("follows", 0, A), ("follows", 1, A), ("is_open", 0, A),
                  ("is_open", 1, A), ("is_open", 0, ALL ^ B), ("is_open", 0, C))
        self.assertEqual(got[2:], [[1], [0], [1], [2], [0], [2]])

    def test_one_who_knows_but_one_world(self):
        got = ask(("begin", 2, 3, 3), ("learn", 0, 4), *[("is_open", 0, 1 << world) for world in range(4)])
        self.assertEqual(got[2:], [[0], [0], [1], [0]])

    def test_always_and_never(self):
        got = ask(("begin", 2, 0, 3), ("follows", 0, 15), ("follows", 0, 0), ("is_open", 0, 15), ("is_open", 0, 0))
        self.assertEqual(got[1:], [[1], [0], [1], [0]])


class SharedAndOwn(unittest.TestCase):
    def test_each_pair_of_sets(self):
        for a in range(16):
            for b in range(16):
                with self.subTest(a=a, b=b):
                    got = ask(("begin", 4, a, b), ("own", 0), ("own", 1), ("shared",))
                    self.assertEqual(got[1:], [[a], [b], [a & b]])


class Tells(unittest.TestCase):
    def test_each_set_of_letters(self):
        start = [("begin", 3, 7, 7), ("learn", 0, A & (B | C)), ("learn", 1, A ^ B ^ C)]
        for s, told in ((0, ALL), (1, A), (2, ALL), (4, ALL), (3, A), (5, A), (6, B | C), (7, A & (B | C))):
            with self.subTest(s=s):
                self.assertEqual(last(*start, ("tells", 0, s)), [told])
        for s in range(7):
            self.assertEqual(last(*start, ("tells", 1, s)), [ALL])
        self.assertEqual(last(*start, ("tells", 1, 7)), [A ^ B ^ C])

    def test_no_letter_shared(self):
        got = ask(("begin", 2, 1, 2), ("learn", 0, 10), ("tells", 0, 0), ("tells", 1, 0), ("tells", 0, 1), ("tells", 0, 2))
        self.assertEqual(got[2:], [[15], [15], [-62], [-62]])

    def test_what_is_told_is_what_tells_says(self):
        start = [("begin", 3, 7, 6), ("learn", 0, A & B | C)]
        for s in (0, 2, 4, 6):
            with self.subTest(s=s):
                said = last(*start, ("tells", 0, s))
                self.assertEqual(last(*start, ("tellof", 0, s)), said * 2)


class News(unittest.TestCase):
    def test_what_the_other_one_does_not_know(self):
        start = [("begin", 3, 3, 6), ("learn", 0, A & B)]
        self.assertEqual(ask(*start, ("news", 0, 2), ("news", 0, 0), ("news", 1, 2), ("news", 1, 0))[2:], [[1], [0], [0], [0]])

    def test_what_the_other_one_knows_already(self):
        start = [("begin", 3, 3, 6), ("learn", 0, B), ("learn", 1, B & C)]
        self.assertEqual(ask(*start, ("news", 0, 2), ("news", 1, 2))[3:], [[0], [0]])

    def test_what_the_other_one_knows_but_in_part(self):
        start = [("begin", 3, 7, 7), ("learn", 0, A & B & C), ("learn", 1, A & B)]
        for s, new in ((0, 0), (1, 0), (2, 0), (3, 0), (4, 1), (5, 1), (6, 1), (7, 1)):
            with self.subTest(s=s):
                self.assertEqual(ask(*start, ("news", 0, s), ("news", 1, s))[3:], [[new], [0]])

    def test_news_in_two_letters_that_is_none_in_either(self):
        start = [("begin", 2, 3, 3), ("learn", 0, 9)]
        self.assertEqual([last(*start, ("news", 0, s)) for s in range(4)], [[0], [0], [0], [1]])

    def test_what_can_never_be_beside_it_is_news(self):
        start = [("begin", 3, 3, 6), ("learn", 0, B), ("learn", 1, ALL ^ B)]
        self.assertEqual(ask(*start, ("news", 0, 2), ("news", 1, 2), ("news", 0, 0))[3:], [[1], [1], [0]])

    def test_no_news_is_what_leaves_the_other_one_alike(self):
        for known_0 in range(1, 16):
            for known_1 in range(1, 16):
                for s in range(4):
                    got = ask(("begin", 2, 3, 3), ("learn", 0, known_0), ("learn", 1, known_1), ("news", 0, s),
                              ("tellof", 0, s), ("knows", 1))
                    told = got[4]
                    self.assertEqual(got[3], [0 if told[-1] == known_1 else 1], (known_0, known_1, s))


class Would(unittest.TestCase):
    def test_each_person(self):
        start = [("begin", 3, 3, 6), ("learn", 0, A & B), ("learn", 1, ALL ^ B | C)]
        self.assertEqual(ask(*start, ("would", 0), ("would", 1), ("knows", 0), ("knows", 1))[3:],
                         [[A & B], [B & C], [A & B, 2], [ALL ^ B | C, 6]])

    def test_it_is_told_in_all_letters_they_share(self):
        start = [("begin", 3, 7, 3), ("learn", 1, A & B), ("learn", 0, ALL ^ (A & B) | C)]
        self.assertEqual(ask(*start, ("would", 0), ("would", 1))[3:], [[A & B & C], [A & B]])

    def test_never_so_where_they_quarrel(self):
        start = [("begin", 3, 3, 6), ("learn", 0, A & B), ("learn", 1, C & (ALL ^ B))]
        self.assertEqual(ask(*start, ("would", 0), ("would", 1), ("tell", 0), ("tell", 1))[3:], [[0], [0], [-33], [-33]])

    def test_it_is_what_is_known_behind_being_told(self):
        for known_0 in range(1, 16):
            for known_1 in range(1, 16):
                start = [("begin", 2, 3, 3), ("learn", 0, known_0), ("learn", 1, known_1)]
                for w in (0, 1):
                    got = ask(*start, ("would", w), ("tell", 1 - w), ("knows", w))
                    expected = [0] if got[4] == [-33] else [got[5][0]]
                    self.assertEqual(got[3], expected, (known_0, known_1, w))


class Both(unittest.TestCase):
    def test_both_claims(self):
        start = [("begin", 3, 3, 6), ("learn", 0, A | B), ("both",), ("learn", 1, ALL ^ B), ("both",), ("learn", 1, C), ("both",)]
        self.assertEqual(ask(*start)[2::2], [[A | B, 6], [A & (ALL ^ B), 2], [A & (ALL ^ B) & C, 1]])

    def test_what_is_always_so(self):
        for m in (1, 2, 3, 4):
            self.assertEqual(last(("begin", m, 1, 0), ("both",)), [(1 << (1 << m)) - 1, 1 << m])

    def test_never_so_where_they_quarrel(self):
        self.assertEqual(last(("begin", 3, 3, 6), ("learn", 0, A & B), ("learn", 1, ALL ^ B), ("both",)), [0, 0])

    def test_no_letter_shared(self):
        self.assertEqual(last(("begin", 2, 1, 2), ("learn", 0, 10), ("learn", 1, 3), ("both",)), [2, 1])


class Common(unittest.TestCase):
    def test_what_both_know_there(self):
        start = [("begin", 3, 7, 7), ("learn", 0, A & B), ("learn", 1, A & C)]
        self.assertEqual(last(*start, ("common",)), [A & (B | C)])

    def test_in_the_letters_they_share_alone(self):
        start = [("begin", 3, 3, 6), ("learn", 0, A & B), ("common",), ("learn", 1, B & C), ("common",)]
        self.assertEqual(ask(*start)[2::2], [[ALL], [B]])
        start = [("begin", 3, 7, 6), ("learn", 0, A & B & C), ("learn", 1, B & C), ("common",)]
        self.assertEqual(last(*start), [B & C])

    def test_what_goes_through_a_letter_that_is_not_shared(self):
        # b and a, or c and not a: in b and c alone that is b or c.
        start = [("begin", 3, 7, 6), ("learn", 0, B & A | C & (ALL ^ A)), ("learn", 1, B), ("common",)]
        self.assertEqual(last(*start), [B | C])

    def test_where_they_quarrel(self):
        start = [("begin", 3, 3, 6), ("learn", 0, A & B), ("learn", 1, C & (ALL ^ B))]
        self.assertEqual(last(*start, ("common",)), [ALL])
        start = [("begin", 2, 3, 3), ("learn", 0, 1), ("learn", 1, 8)]
        self.assertEqual(last(*start, ("common",)), [9])

    def test_no_letter_shared(self):
        self.assertEqual(last(("begin", 2, 1, 2), ("learn", 0, 10), ("learn", 1, 12), ("common",)), [15])


class Agreed(unittest.TestCase):
    def test_each_set_of_letters(self):
        start = [("begin", 3, 7, 7), ("learn", 0, A & B), ("learn", 1, A & C)]
        for s, alike in ((0, 1), (1, 1), (2, 0), (3, 0), (4, 0), (5, 0), (6, 0), (7, 0)):
            with self.subTest(s=s):
                self.assertEqual(last(*start, ("agreed", s)), [alike])

    def test_it_is_not_enough_that_the_one_follows(self):
        for known_0, known_1 in ((14, 8), (8, 14), (15, 9), (9, 15)):
            start = [("begin", 2, 3, 3), ("learn", 0, known_0), ("learn", 1, known_1)]
            self.assertEqual(last(*start, ("agreed", 3)), [0])

    def test_alike_in_each_letter_but_not_in_two(self):
        start = [("begin", 2, 3, 3), ("learn", 0, 9), ("learn", 1, 6)]
        self.assertEqual([last(*start, ("agreed", s)) for s in range(4)], [[1], [1], [1], [0]])

    def test_alike_in_what_they_share_though_not_in_all(self):
        start = [("begin", 3, 3, 6), ("learn", 0, A & B), ("learn", 1, B & (ALL ^ C))]
        self.assertEqual(ask(*start, ("agreed", 0), ("agreed", 2), ("agreed", 1))[3:], [[1], [1], [-62]])

    def test_behind_both_were_told(self):
        start = [("begin", 2, 3, 3), ("learn", 0, 14), ("learn", 1, 7), ("agreed", 3), ("tell", 0), ("tell", 1), ("agreed", 3)]
        self.assertEqual(ask(*start)[3::3], [[0], [1]])


if __name__ == "__main__":
    unittest.main()
