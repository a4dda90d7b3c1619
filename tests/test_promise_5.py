"""Promise 5: parts, matter, settles, unsure, state."""

import unittest

from tests.lines import BIGGEST, ask, changes_nothing, claim, last

A = claim(3, lambda a, b, c: a)
B = claim(3, lambda a, b, c: b)
C = claim(3, lambda a, b, c: c)
ALL = 255
# Over four letters: two parts, of which the one with the least letter is the greater number.
CROSSED = claim(4, lambda a, b, c, d: a == d and (b or c))


class Parts(unittest.TestCase):
    def test_over_three_letters(self):
        for known, found in ((ALL, [3, 1, 2, 4]), (A, [3, 1, 2, 4]), (A & (ALL ^ B) & C, [3, 1, 2, 4]), (A | B, [2, 3, 4]),
                             (A & (B | C), [2, 1, 6]), (B & (A ^ C), [2, 5, 2]), (A ^ B ^ C, [1, 7]), (A | B | C, [1, 7]),
                             (A & B | C, [1, 7]), (A & B | B & C | A & C, [1, 7]), ((A | B) & (B | C), [1, 7])):
            with self.subTest(known=known):
                self.assertEqual(last(("begin", 3, 7, 0), ("learn", 0, known), ("parts", 0)), found)
                self.assertEqual(last(("begin", 3, 0, 7), ("learn", 1, known), ("parts", 1)), found)

    def test_they_are_told_by_their_least_letters(self):
        self.assertEqual(last(("begin", 4, 15, 0), ("learn", 0, CROSSED), ("parts", 0)), [2, 9, 6])
        three = claim(4, lambda a, b, c, d: (a or c or d) and b)
        self.assertEqual(last(("begin", 4, 15, 0), ("learn", 0, three), ("parts", 0)), [2, 13, 2])

    def test_letters_that_are_not_their_own_are_parts_too(self):
        got = ask(("begin", 3, 3, 0), ("learn", 0, A | B), ("parts", 0), ("parts", 1))
        self.assertEqual(got[2:], [[2, 3, 4], [3, 1, 2, 4]])

    def test_what_is_always_so(self):
        for m, found in ((1, [1, 1]), (2, [2, 1, 2]), (4, [4, 1, 2, 4, 8])):
            self.assertEqual(last(("begin", m, 0, 1), ("parts", 0)), found)

    def test_one_world(self):
        self.assertEqual(last(("begin", 4, 15, 0), ("learn", 0, 1 << 6), ("parts", 0)), [4, 1, 2, 4, 8])


class Matter(unittest.TestCase):
    def test_parts_with_a_shared_letter(self):
        for b, found in ((0, [0]), (1, [1, 9]), (2, [1, 6]), (4, [1, 6]), (6, [1, 6]), (8, [1, 9]), (9, [1, 9]),
                         (10, [2, 9, 6]), (12, [2, 9, 6]), (15, [2, 9, 6])):
            with self.subTest(b=b):
                got = ask(("begin", 4, 15, b), ("learn", 0, CROSSED), ("matter", 0), ("parts", 0))
                self.assertEqual(got[2:], [found, [2, 9, 6]])

    def test_each_person(self):
        got = ask(("begin", 3, 7, 6), ("learn", 0, A ^ B), ("learn", 1, B | C), ("matter", 0), ("matter", 1))
        self.assertEqual(got[3:], [[2, 3, 4], [1, 6]])

    def test_a_shared_letter_of_which_nothing_is_known(self):
        self.assertEqual(ask(("begin", 3, 3, 6), ("matter", 0), ("matter", 1))[1:], [[1, 2], [1, 2]])

    def test_no_letter_shared(self):
        self.assertEqual(ask(("begin", 2, 1, 2), ("learn", 0, 10), ("matter", 0), ("matter", 1))[2:], [[0], [0]])

    def test_a_letter_taught(self):
        got = ask(("begin", 2, 3, 0), ("learn", 0, 9), ("matter", 0), ("teach", 1, 1), ("matter", 0), ("matter", 1))
        self.assertEqual(got[2:], [[0], [2], [1, 3], [1, 2]])


class Settles(unittest.TestCase):
    def test_each_letter(self):
        for known, found in ((ALL, [2, 2, 2]), (A, [1, 2, 2]), (ALL ^ A, [0, 2, 2]), (A & (ALL ^ B), [1, 0, 2]),
                             (C & (ALL ^ B), [2, 0, 1]), (A | B, [2, 2, 2]), (A & (ALL ^ A | C), [1, 2, 1]), (1, [0, 0, 0]),
                             (128, [1, 1, 1]), (4, [0, 1, 0])):
            with self.subTest(known=known):
                self.assertEqual(last(("begin", 3, 7, 0), ("learn", 0, known), ("settles", 0)), [3] + found)
                self.assertEqual(last(("begin", 3, 0, 7), ("learn", 1, known), ("settles", 1)), [3] + found)

    def test_letters_that_are_not_their_own_are_neither(self):
        got = ask(("begin", 4, 1, 2), ("learn", 0, 0xAAAA), ("settles", 0), ("settles", 1))
        self.assertEqual(got[2:], [[4, 1, 2, 2, 2], [4, 2, 2, 2, 2]])

    def test_how_many_letters_there_are(self):
        for m in (1, 2, 3, 4):
            self.assertEqual(last(("begin", m, 0, 0), ("settles", 1)), [m] + [2] * m)


class Unsure(unittest.TestCase):
    def test_own_letters_that_are_neither(self):
        for known, found in ((ALL, [3, 0, 1, 2]), (A, [2, 1, 2]), (ALL ^ B, [2, 0, 2]), (A & (ALL ^ C), [1, 1]),
                             (A | B, [3, 0, 1, 2]), (A ^ C, [3, 0, 1, 2]), (1, [0]), (64, [0])):
            with self.subTest(known=known):
                self.assertEqual(last(("begin", 3, 7, 0), ("learn", 0, known), ("unsure", 0)), found)
                self.assertEqual(last(("begin", 3, 0, 7), ("learn", 1, known), ("unsure", 1)), found)

    def test_own_letters_alone(self):
        got = ask(("begin", 4, 10, 5), ("unsure", 0), ("unsure", 1), ("learn", 0, 0xCCCC), ("unsure", 0), ("unsure", 1))
        self.assertEqual(got[1:], [[2, 1, 3], [2, 0, 2], [8], [1, 3], [2, 0, 2]])

    def test_no_own_letters(self):
        self.assertEqual(last(("begin", 4, 0, 15), ("unsure", 0)), [0])

    def test_a_letter_taught(self):
        got = ask(("begin", 2, 1, 2), ("learn", 0, 10), ("unsure", 0), ("teach", 0, 1), ("unsure", 0), ("back",), ("unsure", 0))
        self.assertEqual(got[2:], [[0], [3], [1, 1], [1], [0]])


class State(unittest.TestCase):
    def test_behind_a_begin(self):
        self.assertEqual(last(("begin", 4, 9, 3), ("state",)), [4, 9, 3, 0, 0])
        self.assertEqual(last(("begin", 1, 0, 1), ("state",)), [1, 0, 1, 0, 0])

    def test_a_begin_behind_changes(self):
        start = [("begin", 2, 3, 3), ("learn", 0, 10), ("learn", 0, 12), ("back",)]
        self.assertEqual(ask(*start, ("state",), ("begin", 3, 1, 2), ("state",))[4:], [[2, 3, 3, 1, 1], [0], [3, 1, 2, 0, 0]])

    def test_changes_taken_back_and_done_again(self):
        got = ask(("begin", 3, 1, 2), ("learn", 0, A), ("teach", 1, 2), ("teach", 0, 1), ("state",), ("back",), ("state",),
                  ("back",), ("state",), ("again",), ("state",), ("teach", 0, 2), ("state",), ("back",), ("back",), ("back",),
                  ("state",))
        self.assertEqual(got[4:], [[3, 3, 6, 3, 0], [2], [3, 1, 6, 2, 1], [1], [3, 1, 2, 1, 2], [1], [3, 1, 6, 2, 1], [5],
                                   [3, 5, 6, 3, 0], [2], [1], [0], [3, 1, 2, 0, 3]])

    def test_what_is_refused_and_what_only_asks_count_for_nothing(self):
        start = [("begin", 2, 3, 1), ("learn", 0, 10), ("learn", 0, 12), ("back",)]
        others = [("learn", 0, 5), ("learn", 1, 12), ("teach", 0, 0), ("tellof", 0, 2), ("forget", 2, 0), ("revise", 0, 0),
                  ("knows", 0), ("parts", 0), ("asks", 0, 12), ("would", 1), ("begin", 5, 0, 0)]
        self.assertEqual(last(*start, *others, ("state",)), [2, 3, 1, 1, 1])

    def test_twenty_one_changes_taken_back(self):
        line = [("begin", 2, 3, 3), ("learn", 0, 10)] + [("tell", 0)] * 20
        self.assertEqual(last(*line, ("state",)), [2, 3, 3, 20, 0])
        line += [("back",)] * 20
        self.assertEqual(ask(*line, ("state",), ("back",), ("knows", 0))[42:], [[2, 3, 3, 0, 20], [-6], [10, 2]])
        self.assertEqual(ask(*line, ("back",), ("again",), ("state",))[42:], [[-6], [19], [2, 3, 3, 1, 19]])

    def test_each_of_twenty_one_changes(self):
        for count in range(22):
            with self.subTest(count=count):
                start = [("begin", 2, 3, 3)] + [("forget", 1, 0)] * count
                self.assertEqual(last(*start, ("state",)), [2, 3, 3, min(count, 20), 0])
                kept = min(count, 20)
                if kept:
                    self.assertEqual(last(*start, ("back",), ("state",)), [2, 3, 3, kept - 1, 1])


class Refused(unittest.TestCase):
    def test_no_such_person(self):
        before = [("begin", 3, 3, 6), ("learn", 0, A), ("learn", 1, C), ("back",)]
        for name in ("parts", "matter", "settles", "unsure"):
            for w in (2, 3, 255, BIGGEST):
                with self.subTest(name=name, w=w):
                    self.assertEqual(last(*before, (name, w)), [-2])
                    self.assertTrue(changes_nothing(before, [(name, w)]))


if __name__ == "__main__":
    unittest.main()
