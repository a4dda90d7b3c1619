"""The form of what is handed in and given back."""

import unittest

from sharedwords.letters import answers

LINE = [0, 3, 3, 6, 1, 0, 136, 1, 1, 243, 4, 0, 9, 1, 10, 1, 240, 11, 0, 204, 12, 13, 0, 14, 0, 2, 6, 0, 2,
        3, 0, 85, 2, 0, 1, 5, 1, 2, 7, 8, 9, 2]
ANSWERED = [1, 0, 1, 2, 1, 6, 2, 204, 192, 2, 192, 2, 1, 1, 1, 1, 1, 2, 1, 3, 1, 204, 1, 7,
            1, 68, 1, 204, 2, 204, 204, 1, 6, 1, 0, 1, -2]
QUESTIONS = [0, 3, 7, 6, 1, 0, 136, 1, 1, 243, 15, 0, 2, 16, 1, 17, 1, 240, 18, 1, 240, 19, 1, 240, 20, 21, 22, 23, 24, 4,
             25, 1, 26, 0, 27, 0, 28, 1, 29]
TOLD = [1, 0, 1, 2, 1, 6, 1, 1, 1, 192, 1, 1, 2, 1, 2, 2, 1, 4, 1, 0, 1, -33, 2, 128, 1, 1, 255, 1, 1,
        3, 2, 1, 6, 3, 2, 2, 4, 4, 3, 1, 1, 2, 3, 2, 1, 2, 5, 3, 7, 6, 2, 0]


class Interface(unittest.TestCase):
    def test_the_empty_list(self):
        self.assertEqual(answers([]), [])

    def test_each_call_by_its_number(self):
        self.assertEqual(answers(LINE), ANSWERED)
        self.assertEqual(answers(QUESTIONS), TOLD)

    def test_a_refusal_is_its_number_alone(self):
        self.assertEqual(answers([9, 0, 0, 1, 1, 1, 9, 2, 5, 0, 2, 4, 7]), [1, -11, 1, 0, 1, -2, 1, -22, 1, -2])

    def test_the_kinds(self):
        for line in (LINE, QUESTIONS, []):
            answered = answers(line)
            self.assertIs(type(answered), list)
            for number in answered:
                self.assertIs(type(number), int)

    def test_what_is_handed_in_is_not_changed(self):
        class Watched(list):
            def changed(self, *given):
                raise AssertionError("what is handed in is changed")

            append = extend = insert = pop = remove = clear = sort = reverse = changed
            __setitem__ = __delitem__ = __iadd__ = __imul__ = changed

        for line, answered in ((LINE, ANSWERED), (QUESTIONS, TOLD)):
            handed_in = Watched(line)
            self.assertEqual(answers(handed_in), answered)
            self.assertEqual(list(handed_in), line)

    def test_nothing_is_kept_from_one_time_to_the_next(self):
        answers([0, 2, 3, 3, 1, 0, 8])
        self.assertEqual(answers([9, 0]), [1, -11])
        self.assertEqual(answers([29]), [1, -11])
        for line, answered in ((LINE, ANSWERED), (QUESTIONS, TOLD), (LINE, ANSWERED)):
            given_back = answers(line)
            given_back.clear()
            self.assertEqual(answers(line), answered)

    def test_a_line_of_45_calls(self):
        self.assertEqual(answers([0, 4, 15, 15] + [12] * 44), [1, 0] + [1, 15] * 44)


if __name__ == "__main__":
    unittest.main()
