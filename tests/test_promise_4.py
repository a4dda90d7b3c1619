"""Promise 4: could, asks, safe, quarrel, quarrels."""

import unittest

from tests.lines import BIGGEST, ask, changes_nothing, claim, last

# Over three letters.
A = claim(3, lambda a, b, c: a)
B = claim(3, lambda a, b, c: b)
C = claim(3, lambda a, b, c: c)
ALL = 255


def four(so):
    """A claim over four letters."""
    return claim(4, so)


D = four(lambda a, b, c, d: d)


def know(m, a, b, known_0, known_1):
    """The line behind which the two have these letters and know these claims."""
    return [("begin", m, a, b), ("learn", 0, known_0), ("learn", 1, known_1)]


class Could(unittest.TestCase):
    def test_what_only_both_together_know(self):
        start = know(3, 3, 6, A & B, ALL ^ B | C)
        calls = [("could", 1, C), ("could", 1, B & C), ("could", 1, ALL ^ C), ("could", 0, A), ("could", 0, ALL ^ A)]
        self.assertEqual(ask(*start, *calls)[3:], [[1], [1], [0], [1], [0]])

    def test_it_need_not_be_known_by_the_one_asked_about(self):
        start = know(2, 3, 3, 10, 15)
        self.assertEqual(ask(*start, ("could", 0, 10), ("could", 1, 10), ("could", 1, 12), ("could", 1, 8))[3:],
                         [[1], [1], [0], [0]])

    def test_each_claim_over_two_letters(self):
        for known_0 in range(1, 16):
            for known_1 in (1, 6, 7, 12, 15):
                got = ask(*know(2, 3, 3, known_0, known_1), *[("could", known_0 % 2, q) for q in range(16)])[3:]
                self.assertEqual(got, [[1 if known_0 & known_1 & ~q == 0 else 0] for q in range(16)])

    def test_all_follows_where_they_quarrel(self):
        self.assertEqual(ask(*know(2, 3, 3, 10, 5), ("could", 0, 0), ("could", 1, 12))[3:], [[1], [1]])

    def test_always_and_never(self):
        self.assertEqual(ask(("begin", 2, 0, 0), ("could", 0, 15), ("could", 1, 0))[1:], [[1], [0]])


class Asks(unittest.TestCase):
    def test_in_one_letter(self):
        start = know(3, 3, 6, A & B, ALL ^ B | C)
        self.assertEqual(last(*start, ("asks", 1, C)), [1, 2])

    def test_the_other_one_is_the_one_who_tells(self):
        start = know(3, 7, 7, A, ALL ^ A | B)
        self.assertEqual(ask(*start, ("asks", 0, B), ("asks", 1, B))[3:], [[1, 3], [1, 1]])

    def test_in_either_letter(self):
        start = know(3, 7, 7, ALL ^ (A | B) | C, A & B)
        self.assertEqual(last(*start, ("asks", 0, C)), [2, 1, 2])

    def test_in_two_letters_at_once(self):
        start = know(3, 7, 7, ALL ^ (A & B) | C, A & B)
        self.assertEqual(last(*start, ("asks", 0, C)), [1, 3])
        start = know(3, 7, 7, A ^ B | C, ALL ^ A ^ B)
        self.assertEqual(last(*start, ("asks", 0, C)), [1, 3])

    def test_each_rises_whatever_letters_it_has(self):
        known_0 = four(lambda a, b, c, d: not (c or a == b) or d)
        known_1 = four(lambda a, b, c, d: c and a == b)
        self.assertEqual(last(*know(4, 15, 7, known_0, known_1), ("asks", 0, D)), [2, 3, 4])
        known_0 = four(lambda a, b, c, d: not (a or c == d) or b)
        known_1 = four(lambda a, b, c, d: a and c == d)
        letter_1 = four(lambda a, b, c, d: b)
        self.assertEqual(last(*know(4, 15, 13, known_0, known_1), ("asks", 0, letter_1)), [2, 1, 12])

    def test_three_sets(self):
        known_0 = four(lambda a, b, c, d: not (a or b or c) or d)
        known_1 = four(lambda a, b, c, d: a and b and c)
        self.assertEqual(last(*know(4, 15, 15, known_0, known_1), ("asks", 0, D)), [3, 1, 2, 4])
        known_0 = four(lambda a, b, c, d: not (a and b or b and c or a and c) or d)
        self.assertEqual(last(*know(4, 15, 15, known_0, known_1), ("asks", 0, D)), [3, 3, 5, 6])

    def test_what_is_known_already_needs_no_letter(self):
        start = know(3, 7, 7, A & B, B & C)
        self.assertEqual(ask(*start, ("asks", 0, A), ("asks", 1, C), ("asks", 0, ALL))[3:], [[1, 0]] * 3)

    def test_what_the_other_one_knows_outright(self):
        start = know(3, 7, 7, ALL, A & B)
        calls = [("asks", 0, A), ("asks", 0, B), ("asks", 0, A & B), ("asks", 0, A | B)]
        self.assertEqual(ask(*start, *calls)[3:], [[1, 1], [1, 2], [1, 3], [2, 1, 2]])

    def test_where_they_quarrel(self):
        start = know(3, 7, 7, A, ALL ^ A)
        self.assertEqual(ask(*start, ("asks", 0, 0), ("asks", 1, B))[3:], [[1, 1], [1, 1]])

    def test_a_question_that_nothing_answers(self):
        for start in (know(3, 7, 7, ALL, ALL), know(3, 7, 7, A | B, A | C), know(3, 3, 6, A, C)):
            start = start + [("forget", 0, 0), ("back",)]
            for call in (("asks", 0, B), ("asks", 1, B), ("asks", 0, 0), ("asks", 1, 0), ("asks", 0, ALL ^ A)):
                with self.subTest(start=start, call=call):
                    self.assertEqual(last(*start, call), [-33])
                    self.assertTrue(changes_nothing(start, [call]))

    def test_no_letter_shared(self):
        start = know(2, 1, 2, 10, 12)
        self.assertEqual(ask(*start, ("asks", 0, 10), ("asks", 0, 5), ("asks", 1, 12), ("asks", 1, 0))[3:],
                         [[1, 0], [-33], [1, 0], [-33]])


class Safe(unittest.TestCase):
    def test_nothing_may_be_told(self):
        start = know(3, 3, 6, A & B, ALL ^ B | C)
        self.assertEqual(last(*start, ("safe", 1, C)), [1, 0])

    def test_all_but_one_letter(self):
        start = know(3, 7, 7, ALL ^ A | C, A & B)
        self.assertEqual(last(*start, ("safe", 0, C)), [1, 6])

    def test_the_other_one_is_the_one_who_tells(self):
        start = know(3, 7, 7, A, ALL ^ A | B)
        self.assertEqual(ask(*start, ("safe", 0, B), ("safe", 1, B))[3:], [[2, 5, 6], [1, 6]])

    def test_either_letter_gives_it_away(self):
        start = know(3, 7, 7, ALL ^ (A | B) | C, A & B)
        self.assertEqual(last(*start, ("safe", 0, C)), [1, 4])

    def test_only_both_letters_give_it_away(self):
        start = know(3, 7, 7, ALL ^ (A & B) | C, A & B)
        self.assertEqual(last(*start, ("safe", 0, C)), [2, 5, 6])

    def test_each_rises_whatever_letters_it_has(self):
        known_0 = four(lambda a, b, c, d: not (a == c or b == c) or d)
        known_1 = four(lambda a, b, c, d: a == b == c)
        self.assertEqual(last(*know(4, 15, 7, known_0, known_1), ("safe", 0, D)), [2, 3, 4])
        self.assertEqual(last(*know(4, 15, 15, known_0, known_1), ("safe", 0, D)), [2, 11, 12])
        known_0 = four(lambda a, b, c, d: not (a == b or a == c) or d)
        self.assertEqual(last(*know(4, 15, 7, known_0, known_1), ("safe", 0, D)), [2, 1, 6])

    def test_all_letters_they_share_where_nothing_gives_it_away(self):
        start = know(3, 7, 6, A, B & C)
        self.assertEqual(ask(*start, ("safe", 0, ALL ^ A), ("safe", 0, 0), ("safe", 1, ALL ^ B))[3:], [[1, 6]] * 3)

    def test_where_they_quarrel(self):
        start = know(3, 7, 7, A, ALL ^ A)
        self.assertEqual(ask(*start, ("safe", 0, 0), ("safe", 1, B))[3:], [[1, 6], [1, 6]])

    def test_what_they_know_already(self):
        start = know(3, 7, 7, A & B, ALL) + [("forget", 1, 0), ("back",)]
        for call in (("safe", 0, A), ("safe", 0, B), ("safe", 0, A | C), ("safe", 0, ALL), ("safe", 1, ALL)):
            with self.subTest(call=call):
                self.assertEqual(last(*start, call), [-33])
                self.assertTrue(changes_nothing(start, [call]))
        self.assertEqual(last(*start, ("safe", 1, A)), [1, 6])

    def test_no_letter_shared(self):
        start = know(2, 1, 2, 10, 12)
        self.assertEqual(ask(*start, ("safe", 0, 5), ("safe", 0, 10), ("safe", 1, 0))[3:], [[1, 0], [-33], [1, 0]])


class WhichRefusal(unittest.TestCase):
    # Person 0 has letters 0 and 1 and knows a; person 1 has letters 1 and 2; one change can be done again.
    before = know(3, 3, 6, A, B) + [("learn", 1, C), ("back",)]

    def refused(self, number, call):
        with self.subTest(call=call):
            self.assertEqual(last(*self.before, call), [number])
            self.assertTrue(changes_nothing(self.before, [call]))

    def test_not_told_comes_ahead_of_what_is_not_so(self):
        # It doesn't follow of both, and isn't told in a and b.
        self.refused(-62, ("asks", 0, C))
        self.refused(-62, ("asks", 0, A & C))
        self.refused(-62, ("asks", 1, ALL ^ A))
        # It follows of what they know, and isn't told in their letters.
        self.refused(-62, ("safe", 0, A | C))
        self.refused(-62, ("safe", 1, A | B))

    def test_no_claim_and_no_person_come_ahead_of_these(self):
        for name in ("could", "asks", "safe"):
            for q in (256, 65535, BIGGEST):
                self.refused(-22, (name, 0, q))
                self.refused(-22, (name, 1, q))
                self.refused(-2, (name, 2, q))
            for q in (0, A, C, ALL):
                self.refused(-2, (name, 2, q))
                self.refused(-2, (name, BIGGEST, q))

    def test_what_is_not_so(self):
        self.refused(-33, ("asks", 0, ALL ^ A))
        self.refused(-33, ("asks", 1, C))
        self.refused(-33, ("safe", 0, A | B))
        self.refused(-33, ("safe", 1, ALL))
        self.refused(-33, ("quarrels",))


class Quarrels(unittest.TestCase):
    def both(self, start):
        """What quarrel and quarrels answer."""
        return ask(*start, ("quarrel",), ("quarrels",))[3:]

    def test_in_one_letter(self):
        self.assertEqual(self.both(know(3, 3, 6, A & B, C & (ALL ^ B))), [[1], [1, 2]])
        self.assertEqual(self.both(know(3, 7, 7, A & C, B & (ALL ^ C))), [[1], [1, 4]])

    def test_in_two_at_once(self):
        self.assertEqual(self.both(know(2, 3, 3, 9, 6)), [[1], [1, 3]])
        self.assertEqual(self.both(know(3, 7, 7, A & B, ALL ^ (A & B))), [[1], [1, 3]])
        self.assertEqual(self.both(know(3, 7, 5, A & B & C, ALL ^ (A & C))), [[1], [1, 5]])

    def test_in_three_at_once(self):
        self.assertEqual(self.both(know(3, 7, 7, A ^ B ^ C, ALL ^ A ^ B ^ C)), [[1], [1, 7]])

    def test_in_several_sets(self):
        self.assertEqual(self.both(know(3, 7, 7, A & B, (ALL ^ A) & (ALL ^ B))), [[1], [2, 1, 2]])
        self.assertEqual(self.both(know(3, 7, 7, 1, 128)), [[1], [3, 1, 2, 4]])
        self.assertEqual(self.both(know(3, 7, 7, A & (B ^ C), (ALL ^ A) & (ALL ^ B ^ C))), [[1], [2, 1, 6]])

    def test_each_rises_whatever_letters_it_has(self):
        self.assertEqual(self.both(know(3, 7, 7, C & (A ^ B), (ALL ^ C) & (ALL ^ A ^ B))), [[1], [2, 3, 4]])
        known_0 = four(lambda a, b, c, d: a == b and c == d)
        known_1 = four(lambda a, b, c, d: a != b and c != d)
        self.assertEqual(self.both(know(4, 15, 15, known_0, known_1)), [[1], [2, 3, 12]])

    def test_a_quarrel_in_but_what_they_share(self):
        # They have letter 0 both, but person 0 alone has letter 1.
        self.assertEqual(self.both(know(2, 3, 1, 8, 5)), [[1], [1, 1]])

    def test_none(self):
        for start in (know(3, 3, 6, A & B, B & C), know(3, 7, 7, A, B), know(2, 1, 2, 10, 3), know(2, 3, 3, 9, 7),
                      know(1, 0, 0, 3, 3)):
            start = start + [("forget", 0, 0), ("back",)]
            with self.subTest(start=start):
                self.assertEqual(ask(*start, ("quarrel",), ("quarrels",))[-2:], [[0], [-33]])
                self.assertTrue(changes_nothing(start, [("quarrels",)]))

    def test_a_quarrel_ends_when_it_is_taken_back_or_forgotten(self):
        start = know(2, 3, 3, 8, 4)
        look = [("quarrel",), ("quarrels",)]
        got = ask(*start, *look, ("forget", 1, 1), *look, ("back",), *look, ("revise", 1, 8), *look)
        self.assertEqual(got[3:], [[1], [1, 1], [12], [0], [-33], [2], [1], [1, 1], [8], [0], [-33]])

    def test_a_letter_taught_makes_it_a_quarrel(self):
        got = ask(("begin", 2, 3, 1), ("learn", 0, 8), ("quarrel",), ("teach", 1, 1), ("learn", 1, 3), ("quarrel",), ("quarrels",))
        self.assertEqual(got[2:], [[0], [3], [2], [1], [1, 2]])


if __name__ == "__main__":
    unittest.main()
