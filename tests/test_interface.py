"""How a list of calls is written and its answers told, and what answers() leaves alone."""

import contextlib
import io
import unittest

from lines import GREATEST, apart, back, begins, buy, last, left, line, page, set_page
from typecase.house import answers


class Guarded(list):
    """A list that can be read but not changed, not for a while either."""

    def refuse(self, *rest, **named):
        raise AssertionError("what was handed in is changed")

    append = clear = extend = insert = pop = remove = reverse = sort = refuse
    __setitem__ = __delitem__ = __iadd__ = __imul__ = refuse


EVERY_CALL = line(
    begins(5, 3), page(2, 1), page(4, 0), set_page(0), set_page(1), buy(0, 1),
    set_page(1), left(), back(0), back(0), page(9), buy(2, 0), left(),
)
EVERY_ANSWER = [
    1, 0, 1, 0, 1, 1, 1, 3, 2, -4, 0, 1, 6,
    1, 7, 3, 2, 0, 2, 1, 2, 1, -3, 1, -1, 1, -2, 3, 5, 2, 3,
]


class HowItIsTold(unittest.TestCase):
    def test_each_call_as_it_is_written(self):
        self.assertEqual(answers([0, 2, 7, 9, 0]), [1, 0])
        self.assertEqual(answers([0, 2, 7, 9, 0, 1, 2, 1, 2, 0]), [1, 0, 1, 0])
        self.assertEqual(answers([0, 2, 7, 9, 0, 2, 2, 1, 4, 0]), [1, 0, 1, 13])
        self.assertEqual(answers([0, 2, 7, 9, 0, 1, 2, 1, 2, 0, 3, 1, 0, 0]), [1, 0, 1, 0, 1, 3])
        self.assertEqual(
            answers([0, 2, 7, 9, 0, 1, 2, 1, 2, 0, 3, 1, 0, 0, 4, 1, 0, 0]), [1, 0, 1, 0, 1, 3, 1, 0])
        self.assertEqual(answers([0, 2, 7, 9, 0, 5, 0, 0]), [1, 0, 3, 16, 7, 9])

    def test_a_row_of_all_calls(self):
        self.assertEqual(answers(EVERY_CALL), EVERY_ANSWER)

    def test_a_refusal_is_its_number_alone(self):
        self.assertEqual(answers([0, 0, 0]), [1, -1])
        self.assertEqual(answers([1, 1, 5, 0]), [1, -1])
        self.assertEqual(answers([2, 2, 0, 0, 0]), [1, -2])
        self.assertEqual(answers([3, 1, 0, 0]), [1, -2])
        self.assertEqual(answers([4, 1, 0, 0]), [1, -2])

    def test_minus_4_of_set_has_a_letter_behind_it(self):
        told = answers(line(begins(5, 1), page(1, 2), set_page(0)))
        self.assertEqual(told, [1, 0, 1, 0, 2, -4, 1])

    def test_a_call_without_numbers_among_others(self):
        told = answers(line(page(), begins(), begins(1), page(), left()))
        self.assertEqual(told, [1, -1, 1, -1, 1, 0, 1, -1, 2, 1, 1])

    def test_a_line_of_one_call(self):
        self.assertEqual(answers([5, 0, 0]), [1, 0])

    def test_a_line_of_sixty_calls(self):
        told = answers(line(begins(0), *[buy(0, 2)] * 58, left()))
        self.assertEqual(apart(told), [[0]] + [[2 * k] for k in range(1, 59)] + [[116, 116]])

    def test_sixty_of_the_longest_calls(self):
        most = [GREATEST] * 99
        self.assertEqual(answers(line(*[begins(*most), page(*most)] * 30)), [1, -1] * 60)

    def test_a_list_of_whole_numbers_never_true_or_false(self):
        told = answers(EVERY_CALL)
        self.assertIs(type(told), list)
        self.assertEqual({type(number) for number in told}, {int})


class WhatIsLeftAlone(unittest.TestCase):
    def test_what_is_handed_in_is_as_it_was(self):
        handed = list(EVERY_CALL)
        answers(handed)
        self.assertEqual(handed, EVERY_CALL)

    def test_what_is_handed_in_is_not_changed_for_a_while_either(self):
        self.assertEqual(answers(Guarded(EVERY_CALL)), EVERY_ANSWER)

    def test_a_second_time_is_as_the_first(self):
        first = answers(EVERY_CALL)
        self.assertEqual(answers(EVERY_CALL), first)
        first.clear()
        self.assertEqual(answers(EVERY_CALL), EVERY_ANSWER)

    def test_a_house_is_new_each_time(self):
        answers(line(begins(5, 5), page(1, 1), page(0, 0), set_page(0)))
        self.assertEqual(last(left()), [0])
        self.assertEqual(last(page(1, 1)), [-1])
        self.assertEqual(last(buy(0, 1)), [-2])
        self.assertEqual(last(set_page(1)), [-2])
        self.assertEqual(last(back(0)), [-2])

    def test_nothing_is_printed(self):
        out = io.StringIO()
        with contextlib.redirect_stdout(out), contextlib.redirect_stderr(out):
            answers(EVERY_CALL)
        self.assertEqual(out.getvalue(), "")


if __name__ == "__main__":
    unittest.main()
