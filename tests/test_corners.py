"""The corners that the document names, each through all calls that it bears on."""

import unittest

from tests.lines import ask, claim, last

A = claim(3, lambda a, b, c: a)
B = claim(3, lambda a, b, c: b)
C = claim(3, lambda a, b, c: c)
ALL = 255


class Corners(unittest.TestCase):
    def answered(self, start, *pairs):
        """Each call of the pairs answers, behind the start and one behind another, what stands beside it."""
        got = ask(*start, *[call for call, due in pairs])[len(start):]
        for (call, due), answer in zip(pairs, got):
            with self.subTest(call=call):
                self.assertEqual(answer, due)

    def test_no_letter_shared(self):
        self.answered(
            [("begin", 3, 1, 4), ("learn", 0, A), ("learn", 1, ALL ^ C)],
            (("shared",), [0]), (("tells", 0, 0), [ALL]), (("news", 0, 0), [0]), (("news", 1, 0), [0]),
            (("would", 0), [A]), (("would", 1), [ALL ^ C]), (("could", 0, A), [1]), (("could", 0, ALL ^ A), [0]),
            (("asks", 0, A), [1, 0]), (("asks", 0, ALL ^ A), [-33]), (("safe", 0, A), [-33]), (("safe", 0, ALL ^ A), [1, 0]),
            (("quarrel",), [0]), (("quarrels",), [-33]), (("both",), [A & (ALL ^ C), 2]), (("common",), [ALL]),
            (("agreed", 0), [1]), (("agreed", 1), [-62]), (("agreed", 4), [-62]), (("parts", 0), [3, 1, 2, 4]),
            (("matter", 0), [0]), (("matter", 1), [0]), (("settles", 0), [3, 1, 2, 2]), (("settles", 1), [3, 2, 2, 0]),
            (("unsure", 0), [0]), (("unsure", 1), [0]), (("tell", 0), [ALL, ALL ^ C]), (("state",), [3, 1, 4, 3, 0]))

    def test_all_shared(self):
        self.answered(
            [("begin", 3, 7, 7), ("learn", 0, A & (B | C)), ("learn", 1, ALL ^ B)],
            (("shared",), [7]), (("news", 0, 7), [1]), (("news", 0, 6), [1]), (("news", 1, 2), [1]), (("news", 1, 5), [0]),
            (("would", 0), [A & (ALL ^ B) & C]), (("would", 1), [A & (ALL ^ B) & C]), (("could", 1, C), [1]),
            (("asks", 0, C), [1, 2]), (("asks", 1, C), [1, 6]), (("asks", 1, A), [1, 1]), (("asks", 1, A & C), [1, 7]),
            (("safe", 0, C), [1, 5]), (("safe", 1, C), [2, 3, 5]), (("quarrel",), [0]), (("quarrels",), [-33]),
            (("both",), [A & (ALL ^ B) & C, 1]), (("common",), [A & (B | C) | (ALL ^ B)]),
            (("agreed", 7), [0]), (("agreed", 4), [1]), (("agreed", 1), [0]), (("parts", 0), [2, 1, 6]),
            (("matter", 0), [2, 1, 6]), (("matter", 1), [3, 1, 2, 4]), (("settles", 0), [3, 1, 2, 2]),
            (("settles", 1), [3, 2, 0, 2]), (("unsure", 0), [2, 1, 2]), (("unsure", 1), [2, 0, 2]),
            (("state",), [3, 7, 7, 2, 0]))

    def test_no_own_letters(self):
        self.answered(
            [("begin", 3, 0, 7), ("learn", 1, A & B)],
            (("own", 0), [0]), (("shared",), [0]), (("knows", 0), [ALL, 8]), (("would", 0), [ALL]), (("would", 1), [A & B]),
            (("could", 0, ALL), [1]), (("could", 0, 0), [0]), (("could", 0, A), [-62]), (("asks", 0, ALL), [1, 0]),
            (("asks", 0, 0), [-33]), (("asks", 0, A), [-62]), (("safe", 0, 0), [1, 0]), (("safe", 0, ALL), [-33]),
            (("safe", 0, A), [-62]), (("quarrel",), [0]), (("both",), [A & B, 2]), (("common",), [ALL]), (("agreed", 0), [1]),
            (("parts", 0), [3, 1, 2, 4]), (("matter", 0), [0]), (("settles", 0), [3, 2, 2, 2]), (("unsure", 0), [0]),
            (("tell", 1), [ALL, ALL]), (("state",), [3, 0, 7, 2, 0]))

    def test_neither_has_letters(self):
        self.answered(
            [("begin", 1, 0, 0)],
            (("would", 0), [3]), (("both",), [3, 2]), (("common",), [3]), (("agreed", 0), [1]), (("agreed", 1), [-62]),
            (("quarrel",), [0]), (("parts", 1), [1, 1]), (("matter", 1), [0]), (("settles", 1), [1, 2]), (("unsure", 1), [0]),
            (("state",), [1, 0, 0, 0, 0]))

    def test_a_letter_taught_that_both_share_then(self):
        start = [("begin", 3, 7, 6), ("learn", 0, A & B), ("learn", 1, ALL ^ B | C)]
        self.answered(
            start, (("news", 0, 1), [-62]), (("agreed", 1), [-62]), (("could", 1, A), [-62]), (("matter", 0), [2, 2, 4]),
            (("teach", 1, 0), [7]), (("shared",), [7]), (("news", 0, 1), [1]), (("agreed", 1), [0]), (("agreed", 4), [1]),
            (("could", 1, A), [1]), (("asks", 1, A), [1, 1]), (("asks", 1, A & C), [1, 3]), (("safe", 1, A), [1, 6]),
            (("matter", 0), [3, 1, 2, 4]), (("matter", 1), [2, 1, 6]), (("unsure", 1), [3, 0, 1, 2]),
            (("would", 1), [A & B & C]), (("tell", 0), [A & B, A & B & C]), (("settles", 1), [3, 1, 1, 1]),
            (("state",), [3, 7, 7, 4, 0]), (("back",), [3]), (("back",), [2]), (("agreed", 1), [-62]),
            (("state",), [3, 7, 6, 2, 2]))

    def test_one_who_knows_but_one_world(self):
        only = A & (ALL ^ B) & C
        self.answered(
            [("begin", 3, 7, 7), ("learn", 0, only), ("learn", 1, A)],
            (("knows", 0), [only, 1]), (("settles", 0), [3, 1, 0, 1]), (("unsure", 0), [0]), (("parts", 0), [3, 1, 2, 4]),
            (("would", 0), [only]), (("would", 1), [only]), (("both",), [only, 1]), (("common",), [A]), (("news", 1, 7), [0]),
            (("news", 0, 1), [0]), (("news", 0, 2), [1]), (("asks", 1, only), [1, 6]), (("safe", 1, only), [2, 3, 5]),
            (("asks", 0, only), [1, 0]), (("safe", 0, only), [-33]), (("quarrel",), [0]))

    def test_a_quarrel_in_one_letter(self):
        self.answered(
            [("begin", 3, 3, 6), ("learn", 0, A & B), ("learn", 1, C & (ALL ^ B))],
            (("quarrel",), [1]), (("quarrels",), [1, 2]), (("would", 0), [0]), (("would", 1), [0]), (("both",), [0, 0]),
            (("common",), [ALL]), (("agreed", 2), [0]), (("agreed", 0), [1]), (("news", 0, 2), [1]), (("could", 0, 0), [1]),
            (("asks", 0, 0), [1, 2]), (("safe", 0, 0), [1, 0]), (("tell", 0), [-33]), (("tell", 1), [-33]),
            (("state",), [3, 3, 6, 2, 0]))

    def test_a_quarrel_in_two_at_once(self):
        self.answered(
            [("begin", 3, 7, 3), ("learn", 0, C & (A ^ B)), ("learn", 1, ALL ^ A ^ B)],
            (("quarrel",), [1]), (("quarrels",), [1, 3]), (("would", 0), [0]), (("would", 1), [0]), (("both",), [0, 0]),
            (("common",), [ALL]), (("agreed", 1), [1]), (("agreed", 2), [1]), (("agreed", 3), [0]), (("news", 0, 1), [0]),
            (("news", 0, 3), [1]), (("asks", 1, 0), [1, 3]), (("safe", 1, 0), [2, 1, 2]), (("tellof", 0, 1), [ALL, ALL ^ A ^ B]),
            (("tell", 0), [-33]), (("state",), [3, 7, 3, 3, 0]))

    def test_quarrels_in_several_sets(self):
        self.answered(
            [("begin", 3, 7, 7), ("learn", 0, C & (A ^ B)), ("learn", 1, (ALL ^ C) & (ALL ^ A ^ B))],
            (("quarrel",), [1]), (("quarrels",), [2, 3, 4]), (("would", 1), [0]), (("both",), [0, 0]),
            (("common",), [C & (A ^ B) | (ALL ^ C) & (ALL ^ A ^ B)]), (("asks", 0, 0), [2, 3, 4]), (("safe", 0, 0), [2, 1, 2]))

    def test_something_told_that_is_no_news(self):
        self.answered(
            [("begin", 3, 3, 6), ("learn", 0, B), ("learn", 1, B & C)],
            (("news", 0, 2), [0]), (("would", 1), [B & C]), (("tell", 0), [B, B & C]), (("knows", 1), [B & C, 2]),
            (("state",), [3, 3, 6, 3, 0]), (("back",), [2]), (("news", 0, 2), [0]))

    def test_what_was_forgotten_told_back(self):
        self.answered(
            [("begin", 3, 3, 6), ("learn", 0, A & B), ("tell", 0), ("forget", 0, 2)],
            (("knows", 0), [A, 4]), (("news", 1, 2), [1]), (("would", 0), [A & B]), (("could", 0, B), [1]),
            (("asks", 0, B), [1, 2]), (("safe", 0, B), [1, 0]), (("agreed", 2), [0]), (("tell", 1), [B, A & B]),
            (("knows", 0), [A & B, 2]), (("news", 1, 2), [0]), (("agreed", 2), [1]), (("unsure", 0), [0]))

    def test_a_question_that_nothing_answers(self):
        self.answered(
            [("begin", 3, 7, 7), ("learn", 0, A | B), ("learn", 1, A | C)],
            (("could", 0, A), [0]), (("asks", 0, A), [-33]), (("asks", 1, A), [-33]), (("safe", 0, A), [1, 7]),
            (("safe", 1, A), [1, 7]), (("asks", 0, 0), [-33]), (("state",), [3, 7, 7, 2, 0]))

    def test_twenty_one_changes_taken_back(self):
        # The first one teaches letter 1; it is the one that can't be taken back.
        line = [("begin", 2, 1, 3), ("teach", 0, 1)] + [("learn", 0, 12)] * 20
        self.assertEqual(last(*line, ("state",)), [2, 3, 3, 20, 0])
        line += [("back",)] * 20
        self.answered(line, (("back",), [-6]), (("state",), [2, 3, 3, 0, 20]), (("knows", 0), [15, 4]))


if __name__ == "__main__":
    unittest.main()
