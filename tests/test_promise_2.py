"""Promise 2: learn, forget, revise, tell, tellof, teach."""

import unittest

from tests.lines import ask, changes_nothing, claim, last

# Over three letters.
A = claim(3, lambda a, b, c: a)
B = claim(3, lambda a, b, c: b)
C = claim(3, lambda a, b, c: c)
ALL = 255


class Learn(unittest.TestCase):
    def test_both_are_known(self):
        got = ask(("begin", 3, 3, 6), ("learn", 0, A | B), ("knows", 0), ("learn", 0, A), ("knows", 0), ("learn", 0, B),
                  ("knows", 0), ("knows", 1))
        self.assertEqual(got[1:], [[6], [A | B, 6], [4], [A, 4], [2], [A & B, 2], [ALL, 8]])

    def test_down_to_one_world(self):
        got = ask(("begin", 4, 15, 15), ("learn", 1, 1 << 15), ("knows", 1), ("learn", 1, 65535), ("learn", 1, 1 << 14))
        self.assertEqual(got[1:], [[1], [1 << 15, 1], [1], [-33]])

    def test_what_could_never_be(self):
        before = [("begin", 3, 3, 6), ("learn", 0, A & B), ("learn", 1, C), ("back",)]
        for q in (0, ALL ^ A, ALL ^ B, ALL ^ (A & B), A & (ALL ^ B)):
            with self.subTest(q=q):
                self.assertEqual(last(*before, ("learn", 0, q)), [-33])
                self.assertTrue(changes_nothing(before, [("learn", 0, q)]))

    def test_without_own_letters(self):
        got = ask(("begin", 2, 0, 3), ("learn", 0, 15), ("learn", 0, 0), ("learn", 0, 10), ("learn", 0, 1), ("knows", 0))
        self.assertEqual(got[1:], [[4], [-33], [-62], [-62], [15, 4]])


class Forget(unittest.TestCase):
    def test_what_is_left(self):
        for s, left in ((0, A & B), (1, B), (2, A), (3, ALL), (4, A & B), (5, B), (6, A), (7, ALL)):
            with self.subTest(s=s):
                got = ask(("begin", 3, 3, 6), ("learn", 0, A & B), ("forget", 0, s), ("knows", 0))
                self.assertEqual(got[2], [left])
                self.assertEqual(got[3][0], left)

    def test_what_goes_through_the_forgotten_letter_stays(self):
        a_then_b = ALL ^ A | B
        b_then_c = ALL ^ B | C
        got = ask(("begin", 3, 7, 7), ("learn", 0, a_then_b), ("learn", 0, b_then_c), ("forget", 0, 2))
        self.assertEqual(got[3], [ALL ^ A | C])

    def test_either_letter_forgotten_of_one_or_the_other(self):
        self.assertEqual(last(("begin", 3, 7, 7), ("learn", 1, A | B), ("forget", 1, 1)), [ALL])

    def test_the_other_one_forgets_nothing(self):
        got = ask(("begin", 3, 7, 7), ("learn", 0, A), ("learn", 1, A), ("forget", 0, 1), ("knows", 0), ("knows", 1))
        self.assertEqual(got[3:], [[ALL], [ALL, 8], [A, 4]])

    def test_what_was_forgotten_told_back(self):
        got = ask(("begin", 3, 3, 6), ("learn", 0, B), ("tell", 0), ("forget", 0, 2), ("knows", 0), ("tell", 1), ("knows", 0))
        self.assertEqual(got[2:], [[B, B], [ALL], [ALL, 8], [B, B], [B, 4]])


class Revise(unittest.TestCase):
    def test_where_both_can_be_they_know_both(self):
        got = ask(("begin", 3, 7, 7), ("learn", 0, A | B), ("revise", 0, ALL ^ A), ("knows", 0), ("knows", 1))
        self.assertEqual(got[2:], [[B & (ALL ^ A)], [B & (ALL ^ A), 2], [ALL, 8]])

    def test_parts_that_are_not_touched_stay(self):
        got = ask(("begin", 3, 7, 7), ("learn", 0, A & B & C), ("revise", 0, ALL ^ A), ("knows", 0))
        self.assertEqual(got[2:], [[(ALL ^ A) & B & C], [(ALL ^ A) & B & C, 1]])

    def test_a_touched_part_goes_as_a_whole(self):
        alike = ALL ^ A ^ B
        got = ask(("begin", 3, 7, 7), ("learn", 0, alike & A & C), ("forget", 0, 0), ("revise", 0, ALL ^ A))
        # Here a, b and c are each known by themselves: three parts.
        self.assertEqual(got[3], [(ALL ^ A) & B & C])
        got = ask(("begin", 3, 7, 7), ("learn", 0, alike & C), ("revise", 0, A & (ALL ^ B)))
        self.assertEqual(got[2], [A & (ALL ^ B) & C])
        either = A | B
        got = ask(("begin", 3, 7, 7), ("learn", 0, either & C), ("revise", 0, ALL ^ C))
        self.assertEqual(got[2], [either & (ALL ^ C)])
        got = ask(("begin", 3, 7, 7), ("learn", 0, either & C), ("revise", 0, (ALL ^ A) & (ALL ^ B)))
        self.assertEqual(got[2], [(ALL ^ A) & (ALL ^ B) & C])

    def test_all_is_touched(self):
        odd = A ^ B ^ C
        self.assertEqual(last(("begin", 3, 7, 7), ("learn", 0, odd), ("revise", 0, ALL ^ odd)), [ALL ^ odd])

    def test_a_part_of_two_over_four_letters(self):
        first = claim(4, lambda a, b, c, d: a != c)
        second = claim(4, lambda a, b, c, d: b or d)
        third = claim(4, lambda a, b, c, d: a == c)
        fourth = claim(4, lambda a, b, c, d: not b and not d)
        start = [("begin", 4, 15, 0), ("learn", 0, first), ("learn", 0, second)]
        self.assertEqual(last(*start, ("revise", 0, third)), [third & second])
        self.assertEqual(last(*start, ("revise", 0, fourth)), [fourth & first])
        self.assertEqual(last(*start, ("revise", 0, third & fourth)), [third & fourth])
        touching = claim(4, lambda a, b, c, d: a and b and c)
        self.assertEqual(last(*start, ("revise", 0, touching)), [touching])

    def test_never_so(self):
        before = [("begin", 3, 3, 6), ("learn", 0, A & B), ("learn", 1, C), ("back",)]
        for w in (0, 1):
            self.assertEqual(last(*before, ("revise", w, 0)), [-33])
            self.assertTrue(changes_nothing(before, [("revise", w, 0)]))

    def test_one_who_knows_but_one_world(self):
        got = ask(("begin", 2, 3, 3), ("learn", 0, 1), ("revise", 0, 8), ("revise", 0, 10), ("revise", 0, 5), ("knows", 0))
        self.assertEqual(got[1:], [[1], [8], [8], [4], [4, 1]])


class Tell(unittest.TestCase):
    def test_what_was_told_then_what_is_known(self):
        b_then_c = ALL ^ B | C
        got = ask(("begin", 3, 3, 6), ("learn", 0, A & B), ("learn", 1, b_then_c), ("tell", 0), ("knows", 0), ("knows", 1))
        self.assertEqual(got[3:], [[B, B & C], [A & B, 2], [B & C, 2]])

    def test_the_other_way_round(self):
        a_or_b = A | B
        got = ask(("begin", 3, 3, 6), ("learn", 0, a_or_b), ("learn", 1, C & (ALL ^ B)), ("tell", 1), ("knows", 0), ("knows", 1))
        self.assertEqual(got[3:], [[ALL ^ B, A & (ALL ^ B)], [A & (ALL ^ B), 2], [C & (ALL ^ B), 2]])

    def test_no_letter_shared(self):
        got = ask(("begin", 2, 1, 2), ("learn", 0, 10), ("learn", 1, 12), ("shared",), ("tell", 0), ("tell", 1), ("knows", 0))
        self.assertEqual(got[3:], [[0], [15, 12], [15, 10], [10, 2]])

    def test_all_letters_shared(self):
        got = ask(("begin", 2, 3, 3), ("learn", 0, 14), ("learn", 1, 7), ("tell", 0), ("tell", 1), ("knows", 0), ("knows", 1))
        self.assertEqual(got[3:], [[14, 6], [6, 6], [6, 2], [6, 2]])

    def test_no_own_letters(self):
        got = ask(("begin", 2, 0, 3), ("learn", 1, 8), ("tell", 1), ("tell", 0), ("knows", 0), ("knows", 1))
        self.assertEqual(got[2:], [[15, 15], [15, 8], [15, 4], [8, 1]])

    def test_what_is_no_news(self):
        got = ask(("begin", 3, 3, 6), ("learn", 0, B), ("learn", 1, B & C), ("tell", 0), ("knows", 1), ("back",), ("knows", 1))
        self.assertEqual(got[3:], [[B, B & C], [B & C, 2], [2], [B & C, 2]])

    def test_a_letter_taught_that_both_share_then(self):
        got = ask(("begin", 2, 3, 0), ("learn", 0, 8), ("tell", 0), ("teach", 1, 1), ("tell", 0), ("teach", 1, 0), ("tell", 0))
        self.assertEqual(got[2:], [[15, 15], [2], [12, 12], [3], [8, 8]])

    def test_what_could_never_both_be(self):
        before = [("begin", 3, 3, 6), ("learn", 0, A & B), ("learn", 1, C & (ALL ^ B)), ("learn", 0, A), ("back",)]
        for call in (("tell", 0), ("tell", 1), ("tellof", 0, 2), ("tellof", 1, 2)):
            with self.subTest(call=call):
                self.assertEqual(last(*before, call), [-33])
                self.assertTrue(changes_nothing(before, [call]))

    def test_a_quarrel_that_is_in_two_letters_at_once(self):
        start = [("begin", 2, 3, 3), ("learn", 0, 9), ("learn", 1, 6)]
        self.assertEqual(last(*start, ("tell", 0)), [-33])
        self.assertEqual(last(*start, ("tellof", 0, 3)), [-33])
        self.assertEqual(last(*start, ("tellof", 0, 1)), [15, 6])
        self.assertEqual(last(*start, ("tellof", 1, 2)), [15, 9])


class Tellof(unittest.TestCase):
    def test_each_set_of_letters(self):
        for s, told in ((0, 15), (1, 10), (2, 12), (3, 8)):
            with self.subTest(s=s):
                got = ask(("begin", 2, 3, 3), ("learn", 0, 8), ("tellof", 0, s), ("knows", 1), ("knows", 0))
                self.assertEqual(got[2], [told, told])
                self.assertEqual(got[3][0], told)
                self.assertEqual(got[4], [8, 1])

    def test_in_fewer_letters_than_they_share(self):
        got = ask(("begin", 3, 7, 7), ("learn", 1, A & (B | C)), ("learn", 0, B), ("tellof", 1, 1), ("tellof", 1, 6))
        self.assertEqual(got[3:], [[A, A & B], [B | C, A & B]])


class Teach(unittest.TestCase):
    def test_own_letters_grow(self):
        got = ask(("begin", 4, 0, 5), ("teach", 0, 0), ("teach", 0, 3), ("teach", 1, 1), ("own", 0), ("own", 1), ("shared",))
        self.assertEqual(got[1:], [[1], [9], [7], [9], [7], [1]])

    def test_a_letter_of_the_others_and_a_letter_of_nobodys(self):
        self.assertEqual(ask(("begin", 2, 1, 0), ("teach", 1, 0), ("teach", 1, 1))[1:], [[1], [3]])

    def test_theirs_already(self):
        before = [("begin", 3, 3, 6), ("teach", 0, 2), ("learn", 1, C), ("back",)]
        for call in (("teach", 0, 0), ("teach", 0, 1), ("teach", 0, 2), ("teach", 1, 1), ("teach", 1, 2)):
            with self.subTest(call=call):
                self.assertEqual(last(*before, call), [-17])
                self.assertTrue(changes_nothing(before, [call]))

    def test_what_is_known_stays(self):
        got = ask(("begin", 2, 1, 2), ("learn", 0, 10), ("teach", 0, 1), ("knows", 0), ("learn", 0, 8), ("back",), ("back",),
                  ("learn", 0, 8))
        self.assertEqual(got[2:], [[3], [10, 2], [1], [2], [1], [-62]])


if __name__ == "__main__":
    unittest.main()
