"""Promise 1: begin, back, again, what a change is, and the refusals where a person is given."""

import unittest

from tests.lines import BIGGEST, CLAIM_CALLS, LETTERS_CALLS, LONE_CALLS, NAMES, SHOW, WIDTHS
from tests.lines import ask, changes_nothing, last

ALWAYS_2 = 15
LETTER_0 = 10
LETTER_1 = 12


class Begin(unittest.TestCase):
    def test_each_number_of_letters(self):
        for m, always in ((1, 3), (2, 15), (3, 255), (4, 65535)):
            every = (1 << m) - 1
            with self.subTest(m=m):
                got = ask(("begin", m, every, 1), *SHOW)
                worlds = 1 << m
                self.assertEqual(got, [[0], [always, worlds], [always, worlds], [every], [1], [1]])

    def test_how_many_letters_is_not_right(self):
        for m in (0, 5, 6, 32, 64, BIGGEST):
            with self.subTest(m=m):
                self.assertEqual(ask(("begin", m, 0, 0)), [[-22]])

    def test_own_letters_are_not_right(self):
        for m in (1, 2, 3, 4):
            for wrong in (1 << m, (1 << m) + 1, 1 << 31, BIGGEST):
                with self.subTest(m=m, wrong=wrong):
                    self.assertEqual(ask(("begin", m, wrong, 0), ("begin", m, 0, wrong)), [[-22], [-22]])

    def test_a_begin_behind_a_begin_is_all_new(self):
        got = ask(("begin", 2, 3, 1), ("learn", 0, LETTER_0), ("teach", 1, 1), ("back",), ("begin", 3, 4, 6),
                  *SHOW, ("back",), ("again",))
        self.assertEqual(got[4:], [[0], [255, 8], [255, 8], [4], [6], [4], [-6], [-6]])

    def test_a_begin_that_is_refused_leaves_what_was(self):
        before = [("begin", 2, 3, 3), ("learn", 0, LETTER_0), ("learn", 1, LETTER_1), ("back",)]
        for wrong in (("begin", 0, 0, 0), ("begin", 5, 0, 0), ("begin", 2, 4, 0), ("begin", 2, 0, 4)):
            with self.subTest(wrong=wrong):
                self.assertEqual(last(*before, wrong), [-22])
                self.assertTrue(changes_nothing(before, [wrong]))

    def test_every_other_call_before_a_begin(self):
        for number, name in enumerate(NAMES[1:], start=1):
            for value in (0, 1, 5, BIGGEST):
                call = (name,) + (value,) * WIDTHS[number]
                with self.subTest(call=call):
                    self.assertEqual(ask(call), [[-11]])
                    self.assertEqual(ask(("begin", 9, 0, 0), call, call), [[-22], [-11], [-11]])

    def test_a_begin_behind_calls_that_came_too_early(self):
        got = ask(("learn", 0, 1), ("back",), ("begin", 0, 0, 0), ("again",), ("begin", 1, 1, 1), ("back",), ("knows", 0))
        self.assertEqual(got, [[-11], [-11], [-22], [-11], [0], [-6], [3, 2]])


class BackAndAgain(unittest.TestCase):
    def test_nothing_to_take_back_or_do_again(self):
        self.assertEqual(ask(("begin", 2, 3, 3), ("back",), ("again",), ("back",)), [[0], [-6], [-6], [-6]])

    def test_how_many_there_still_are(self):
        got = ask(("begin", 2, 3, 3), ("learn", 0, LETTER_0), ("learn", 0, LETTER_1), ("learn", 1, LETTER_1),
                  ("back",), ("back",), ("knows", 0), ("again",), ("knows", 0), ("again",), ("knows", 1), ("again",),
                  ("back",), ("back",), ("back",), ("back",), *SHOW)
        self.assertEqual(got[4:], [
            [2], [1], [10, 2], [1], [8, 1], [0], [12, 2], [-6],
            [2], [1], [0], [-6], [15, 4], [15, 4], [3], [3], [3]])

    def test_each_kind_of_change_is_taken_back_and_done_again(self):
        start = [("begin", 3, 3, 6), ("learn", 0, 0x88), ("learn", 1, 0xF3)]
        changes = (("learn", 0, 0xCC), ("learn", 1, 0xF0), ("forget", 0, 1), ("revise", 0, 0x55), ("revise", 1, 0xCC),
                   ("tell", 0), ("tellof", 0, 2), ("teach", 0, 2), ("teach", 1, 0))
        before = ask(*start, *SHOW)[3:]
        for change in changes:
            with self.subTest(change=change):
                after = ask(*start, change, *SHOW)[4:]
                got = ask(*start, change, ("back",), *SHOW, ("again",), *SHOW, ("again",))
                self.assertEqual(got[4:], [[2]] + before + [[0]] + after + [[-6]])

    def test_a_change_that_alters_nothing_is_one(self):
        for change in (("learn", 0, 15), ("forget", 0, 0), ("revise", 0, 15), ("tell", 0), ("tellof", 1, 0)):
            with self.subTest(change=change):
                self.assertEqual(ask(("begin", 2, 3, 1), change, ("back",), ("back",))[2:], [[0], [-6]])

    def test_what_only_asks_is_no_change(self):
        before = [("begin", 2, 3, 1), ("learn", 0, LETTER_0), ("learn", 1, 15 ^ LETTER_0), ("learn", 0, LETTER_1), ("back",)]
        for number, name in enumerate(NAMES[9:], start=9):
            question = (name, 0, LETTER_1)[:1 + WIDTHS[number]]
            if name in ("tells", "news"):
                question = (name, 0, 1)
            if name == "agreed":
                question = (name, 1)
            with self.subTest(question=question):
                self.assertGreaterEqual(last(*before, question)[0], 0)
                self.assertTrue(changes_nothing(before, [question]))

    def test_a_refused_change_can_not_be_taken_back(self):
        got = ask(("begin", 1, 1, 1), ("learn", 0, 2), ("learn", 0, 1), ("teach", 0, 0), ("back",), ("back",))
        self.assertEqual(got[1:], [[1], [-33], [-17], [0], [-6]])

    def test_a_new_change_ends_what_could_be_done_again(self):
        got = ask(("begin", 2, 3, 3), ("learn", 0, LETTER_0), ("learn", 0, LETTER_1), ("back",), ("back",),
                  ("learn", 1, LETTER_1), ("again",), ("knows", 0), ("back",), ("again",), ("again",))
        self.assertEqual(got[3:], [[1], [0], [2], [-6], [15, 4], [0], [0], [-6]])

    def test_a_refused_change_leaves_what_can_be_done_again(self):
        got = ask(("begin", 2, 3, 3), ("learn", 0, LETTER_0), ("back",), ("learn", 0, 0), ("again",), ("knows", 0))
        self.assertEqual(got[2:], [[0], [-33], [0], [10, 2]])

    def test_a_new_change_behind_some_done_again(self):
        got = ask(("begin", 2, 3, 3), ("learn", 0, LETTER_0), ("learn", 0, LETTER_1), ("learn", 1, LETTER_0),
                  ("back",), ("back",), ("back",), ("again",), ("forget", 0, 2), ("again",), ("back",), ("back",), ("back",))
        self.assertEqual(got[4:], [[2], [1], [0], [2], [10], [-6], [1], [0], [-6]])

    def test_twenty_changes_taken_back(self):
        got = ask(("begin", 2, 3, 3), *[("learn", 0, LETTER_0)] + [("tell", 1)] * 19, *[("back",)] * 21, ("knows", 0))
        self.assertEqual(got[21:], [[left] for left in range(19, -1, -1)] + [[-6], [15, 4]])

    def test_twenty_one_changes_taken_back(self):
        got = ask(("begin", 2, 3, 3), *[("learn", 0, LETTER_0)] + [("learn", 0, LETTER_1)] * 20,
                  *[("back",)] * 21, ("knows", 0), ("again",))
        self.assertEqual(got[22:], [[left] for left in range(19, -1, -1)] + [[-6], [10, 2], [19]])

    def test_all_that_was_taken_back_can_be_done_again(self):
        got = ask(("begin", 2, 3, 3), *[("tell", 0)] * 14, *[("back",)] * 14, *[("again",)] * 15, ("back",))
        falling = [[left] for left in range(13, -1, -1)]
        self.assertEqual(got[15:], falling + falling + [[-6], [13]])


class WhereAPersonIsGiven(unittest.TestCase):
    # Person 0 has letters 0 and 1, person 1 letters 1 and 2; each knows something, and there is one to do again.
    before = [("begin", 3, 3, 6), ("learn", 0, 0xEE), ("learn", 1, 0xFC), ("learn", 1, 0xF0), ("back",)]

    def refused(self, number, call):
        with self.subTest(call=call):
            self.assertEqual(last(*self.before, call), [number])
            self.assertTrue(changes_nothing(self.before, [call]))

    def test_no_such_person(self):
        for w in (2, 3, 255, BIGGEST):
            for name in LONE_CALLS:
                self.refused(-2, (name, w))
            for name in CLAIM_CALLS + LETTERS_CALLS + ("teach",):
                self.refused(-2, (name, w, 2))

    def test_no_such_person_comes_ahead_of_what_is_not_right(self):
        for name in CLAIM_CALLS + LETTERS_CALLS + ("teach",):
            for x in (0, 1, 8, 0xAA, 256, BIGGEST):
                self.refused(-2, (name, 2, x))

    def test_no_claim(self):
        for name in CLAIM_CALLS:
            for q in (256, 257, 65535, 65536, BIGGEST):
                self.refused(-22, (name, 0, q))
                self.refused(-22, (name, 1, q))

    def test_the_biggest_claim_of_each_number_of_letters(self):
        for m, always in ((1, 3), (2, 15), (3, 255), (4, 65535)):
            for name in CLAIM_CALLS:
                with self.subTest(m=m, name=name):
                    begin = ("begin", m, 1, 1)
                    got = last(begin, (name, 0, always))
                    if name == "safe":
                        # It is right to give it, but it follows of anything.
                        self.assertEqual(got, [-33])
                    else:
                        self.assertGreaterEqual(got[0], 0)
                    self.assertEqual(last(begin, (name, 0, always + 1)), [-22])

    def test_no_set_of_letters(self):
        for name in LETTERS_CALLS:
            for s in (8, 9, 10, 255, BIGGEST):
                self.refused(-22, (name, 0, s))
                self.refused(-22, (name, 1, s))

    def test_no_letter(self):
        for i in (3, 4, 32, 64, BIGGEST):
            self.refused(-2, ("teach", 0, i))
            self.refused(-2, ("teach", 1, i))

    def test_a_claim_that_is_not_told_in_own_letters(self):
        for name in CLAIM_CALLS:
            for q in (0xF0, 0x0F, 0x80, 0x01, 0xC0, 0xFE):
                self.refused(-62, (name, 0, q))
            for q in (0xAA, 0x55, 0x80, 0x01, 0x88, 0xFE):
                self.refused(-62, (name, 1, q))

    def test_letters_that_are_not_shared(self):
        for name in ("tellof", "tells", "news"):
            for s in (1, 3, 4, 5, 6, 7):
                self.refused(-62, (name, 0, s))
                self.refused(-62, (name, 1, s))

    def test_letters_to_forget_need_not_be_shared(self):
        for s in range(8):
            for w in (0, 1):
                with self.subTest(w=w, s=s):
                    self.assertGreater(last(*self.before, ("forget", w, s))[0], 0)

    def test_not_told_comes_ahead_of_what_can_not_be(self):
        before = [("begin", 2, 1, 3), ("learn", 0, LETTER_0)]
        # Not told in letter 0 alone, and against what is known.
        self.assertEqual(last(*before, ("learn", 0, 1)), [-62])
        # Told in any letters, as it is so in no world.
        self.assertEqual(last(*before, ("learn", 0, 0)), [-33])
        self.assertEqual(last(*before, ("revise", 0, 0)), [-33])


class WhereLettersAloneAreGiven(unittest.TestCase):
    before = WhereAPersonIsGiven.before

    def refused(self, number, s):
        with self.subTest(s=s):
            self.assertEqual(last(*self.before, ("agreed", s)), [number])
            self.assertTrue(changes_nothing(self.before, [("agreed", s)]))

    def test_no_set_of_letters(self):
        for s in (8, 9, 10, 15, 255, 65536, BIGGEST):
            self.refused(-22, s)

    def test_letters_that_are_not_shared(self):
        for s in (1, 3, 4, 5, 6, 7):
            self.refused(-62, s)

    def test_letters_that_are_shared(self):
        for s in (0, 2):
            self.assertIn(last(*self.before, ("agreed", s)), ([0], [1]))

    def test_the_greatest_set_of_each_number_of_letters(self):
        for m in (1, 2, 3, 4):
            every = (1 << m) - 1
            for name, given in (("agreed", ()), ("news", (0,)), ("tells", (1,)), ("tellof", (0,))):
                with self.subTest(m=m, name=name):
                    start = ("begin", m, every, every)
                    self.assertGreaterEqual(last(start, (name, *given, every))[0], 0)
                    self.assertEqual(last(start, (name, *given, every + 1)), [-22])


if __name__ == "__main__":
    unittest.main()
