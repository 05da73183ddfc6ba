"""How a list of calls is written and its answers told, and what answers() leaves alone."""

import contextlib
import io
import time
import unittest

from lines import (
    GREATEST, apart, ask, back, begins, bought, buy, fits, fullest, last, left, line, page, plan, set_page, turns,
)
from typecase.house import answers


class Guarded(list):
    """A list that can be read but not changed, not for a while either."""

    def refuse(self, *rest, **named):
        raise AssertionError("what was handed in is changed")

    append = clear = extend = insert = pop = remove = reverse = sort = refuse
    __setitem__ = __delitem__ = __iadd__ = __imul__ = refuse


EVERY_CALL = line(
    begins(5, 3), page(2, 1), page(4, 0), set_page(0), set_page(1), buy(0, 1),
    set_page(1), left(), back(0), back(0), page(9), buy(2, 0), left(),
    fits(3), fits(4), fullest(), turns(), page(7, 0), fits(7), fullest(), turns(), bought(0), bought(2), bought(3),
    plan(), plan(1, 2, 1), plan(8), plan(4), plan(*[0] * 9), left(),
)
EVERY_ANSWER = [
    1, 0, 1, 0, 1, 1, 1, 3, 2, -4, 0, 1, 6,
    1, 7, 3, 2, 0, 2, 1, 2, 1, -3, 1, -1, 1, -2, 3, 5, 2, 3,
    3, 1, 0, 0, 1, -2, 2, 1, 3, 2, 1, 3, 1, 2, 3, 0, 7, 0, 2, 1, 3, 1, -4, 1, -4, 5, 1, 1, 0, 3, 4, 6, 1, 1, 0, 1, 2, 4,
    1, 0, 4, 3, 3, 3, 1, 1, -2, 1, -4, 1, -2, 3, 5, 2, 3,
]


class HowItIsTold(unittest.TestCase):
    def test_each_call_as_it_is_written(self):
        self.assertEqual(answers([0, 2, 7, 9, 0]), [1, 0])
        self.assertEqual(answers([0, 2, 7, 9, 0, 1, 2, 1, 2, 0]), [1, 0, 1, 0])
        self.assertEqual(answers([0, 2, 7, 9, 0, 2, 2, 1, 4, 0]), [1, 0, 1, 13])
        self.assertEqual(answers([0, 2, 7, 9, 0, 1, 2, 1, 2, 0, 3, 1, 0, 0]), [1, 0, 1, 0, 1, 3])
        self.assertEqual(
            answers([0, 2, 7, 9, 0, 1, 2, 1, 2, 0, 3, 1, 0, 0, 4, 1, 0, 0]), [1, 0, 1, 0, 1, 3, 1, 0])
        self.assertEqual(answers([0, 2, 7, 9, 0, 5, 0, 0]), [1, 0, 3, 16, 7, 9])

    def test_each_call_of_the_others_as_it_is_written(self):
        house = [0, 2, 7, 9, 0, 1, 2, 5, 3, 0, 1, 2, 4, 8, 0]
        told = [1, 0, 1, 0, 1, 1]
        self.assertEqual(answers(house + [6, 1, 3, 0]), told + [3, 0, 2, 2])
        self.assertEqual(answers(house + [7, 0, 0]), told + [3, 2, 1, 2])
        self.assertEqual(answers(house + [8, 0, 0]), told + [3, 2, 1, 2])
        self.assertEqual(answers(house + [9, 1, 1, 0]), told + [4, 4, 2, 2, 3])
        self.assertEqual(answers(house + [10, 3, 1, 2, 1, 0]), told + [4, 28, 1, 2, 1])
        self.assertEqual(answers(house + [10, 0, 0]), told + [1, 0])

    def test_a_row_of_all_calls(self):
        self.assertEqual(answers(EVERY_CALL), EVERY_ANSWER)

    def test_a_refusal_is_its_number_alone(self):
        self.assertEqual(answers([0, 0, 0]), [1, -1])
        self.assertEqual(answers([1, 1, 5, 0]), [1, -1])
        self.assertEqual(answers([2, 2, 0, 0, 0]), [1, -2])
        self.assertEqual(answers([3, 1, 0, 0]), [1, -2])
        self.assertEqual(answers([4, 1, 0, 0]), [1, -2])
        self.assertEqual(answers([6, 1, 1, 0]), [1, -2])
        self.assertEqual(answers([0, 1, 1, 0, 1, 1, 2, 0, 8, 0, 0]), [1, 0, 1, 0, 1, -4])
        self.assertEqual(answers([0, 1, 1, 0, 1, 1, 2, 0, 9, 1, 0, 0]), [1, 0, 1, 0, 1, -4])
        self.assertEqual(answers([10, 2, 0, 1, 0]), [1, -2])
        self.assertEqual(answers([0, 1, 1, 0, 1, 1, 2, 0, 10, 1, 1, 0]), [1, 0, 1, 0, 1, -4])

    def test_minus_4_of_set_has_a_letter_behind_it(self):
        told = answers(line(begins(5, 1), page(1, 2), set_page(0)))
        self.assertEqual(told, [1, 0, 1, 0, 2, -4, 1])

    def test_a_call_without_numbers_among_others(self):
        told = answers(line(page(), begins(), begins(1), page(), left()))
        self.assertEqual(told, [1, -1, 1, -1, 1, 0, 1, -1, 2, 1, 1])

    def test_a_line_of_one_call(self):
        self.assertEqual(answers([5, 0, 0]), [1, 0])

    def test_a_line_of_sixty_calls(self):
        told = answers(line(begins(0), *[buy(0, 2)] * 58, left()))
        self.assertEqual(apart(told), [[0]] + [[2 * k] for k in range(1, 59)] + [[116, 116]])

    def test_sixty_of_the_longest_calls(self):
        most = [GREATEST] * 99
        self.assertEqual(answers(line(*[begins(*most), page(*most)] * 30)), [1, -1] * 60)
        self.assertEqual(answers(line(*[plan(*most)] * 60)), [1, -2] * 60)

    def test_a_list_of_whole_numbers_never_true_or_false(self):
        told = answers(EVERY_CALL)
        self.assertIs(type(told), list)
        self.assertEqual({type(number) for number in told}, {int})


class WhatIsLeftAlone(unittest.TestCase):
    def test_what_is_handed_in_is_as_it_was(self):
        handed = list(EVERY_CALL)
        answers(handed)
        self.assertEqual(handed, EVERY_CALL)

    def test_what_is_handed_in_is_not_changed_for_a_while_either(self):
        self.assertEqual(answers(Guarded(EVERY_CALL)), EVERY_ANSWER)

    def test_a_second_time_is_as_the_first(self):
        first = answers(EVERY_CALL)
        self.assertEqual(answers(EVERY_CALL), first)
        first.clear()
        self.assertEqual(answers(EVERY_CALL), EVERY_ANSWER)

    def test_a_house_is_new_each_time(self):
        answers(line(begins(5, 5), page(1, 1), page(0, 0), set_page(0)))
        self.assertEqual(last(left()), [0])
        self.assertEqual(last(page(1, 1)), [-1])
        self.assertEqual(last(buy(0, 1)), [-2])
        self.assertEqual(last(set_page(1)), [-2])
        self.assertEqual(last(back(0)), [-2])
        self.assertEqual(last(fits(1)), [-2])
        self.assertEqual(last(fullest()), [1, 0])
        self.assertEqual(last(turns()), [0])
        self.assertEqual(last(bought(0)), [0])
        self.assertEqual(last(plan(1)), [-2])

    def test_nothing_is_printed(self):
        out = io.StringIO()
        with contextlib.redirect_stdout(out), contextlib.redirect_stderr(out):
            answers(EVERY_CALL)
        self.assertEqual(out.getvalue(), "")


class WhatOnlyAsks(unittest.TestCase):
    """Behind fits, fullest, turns, bought and plan the house is as it was."""

    HOUSES = (
        [],
        [begins(5, 5)],
        [begins(5, 5), page(2, 1), page(3, 2), page(1, 4), set_page(0), set_page(1)],
        [begins(5, 5), page(6, 1), page(3, 2), page(1, 4), set_page(2), set_page(1), back(2)],
        [begins(9)] + [page(k) for k in range(1, 9)] + [set_page(k) for k in (0, 2, 4)],
    )
    ASKED = (
        fits(0), fits(1), fits(3), fits(7), fits(255), fits(GREATEST), fullest(), turns(),
        bought(0), bought(1), bought(2), bought(8), bought(GREATEST),
        plan(), plan(0), plan(1), plan(2, 1), plan(1, 2, 4, 1), plan(7), plan(255, 1), plan(GREATEST), plan(*[1] * 9),
    )
    BEHIND = (
        left(), set_page(0), set_page(1), set_page(2), left(), back(0), back(1), back(2), left(),
        page(1, 1), buy(0, 3), buy(1, 1), set_page(1), set_page(3), back(3), left(), fullest(),
    )

    def test_what_follows_is_answered_as_without_it(self):
        for house in self.HOUSES:
            without = ask(*house, *self.BEHIND)
            for asked in self.ASKED:
                told = ask(*house, asked, *self.BEHIND)
                self.assertEqual(told[:len(house)] + told[len(house) + 1:], without, asked)

    def test_all_of_them_one_behind_another(self):
        for house in self.HOUSES:
            without = ask(*house, *self.BEHIND)
            told = ask(*house, *self.ASKED, *self.BEHIND)
            self.assertEqual(told[-len(self.BEHIND):], without[len(house):])

    def test_each_is_answered_again_as_before(self):
        for house in self.HOUSES:
            for asked in self.ASKED:
                first, second = ask(*house, asked, asked)[-2:]
                self.assertEqual(first, second, asked)
                self.assertEqual(ask(*house, asked)[-1], first, asked)


class InLittleTime(unittest.TestCase):
    """Lines of sixty calls that ask the largest calls again and again; each takes a fraction of a second."""

    MOST_SECONDS = 5

    def wants(self, number):
        return [(letter * 7919 + number * 104729 + letter * number * 613) % 3000 for letter in range(32)]

    def house(self, there):
        return [begins(*[there] * 32)] + [page(*self.wants(number)) for number in range(8)]

    def ask_often(self, house, *asked):
        calls = house + list(asked) * 60
        begun = time.process_time()
        told = ask(*calls[:60])
        self.assertLess(time.process_time() - begun, self.MOST_SECONDS)
        return told[len(house):]

    def test_fits_fullest_and_turns(self):
        for there in (3000, 6000, 9000, 30000):
            for asked in (fits(255), fullest(), turns()):
                told = self.ask_often(self.house(there), asked)
                self.assertEqual(told, told[:1] * 51)

    def test_bought(self):
        for there in (0, 2000, 6000):
            for t in range(1, 9):
                told = self.ask_often(self.house(there), bought(t))
                self.assertEqual(told, told[:1] * 51)

    def test_bought_where_the_last_page_wants_most(self):
        house = [begins(*[0] * 32)] + [page(*[1] * 32)] * 7 + [page(*[60000] * 32)]
        for t in range(1, 9):
            self.assertEqual(self.ask_often(house, bought(t))[0][0], 32 * (60000 if t > 1 else 60007))

    def test_plan(self):
        singles = [1 << number for number in range(8)]
        for there in (6000, 9000, 65535):
            for formes in ([0] * 8, singles, [3, 12, 48, 192] * 2, [1, 2, 4] * 2 + [1, 2]):
                told = self.ask_often(self.house(there), plan(*formes))
                self.assertEqual(told, told[:1] * 51)

    def test_plan_where_all_pages_stand(self):
        house = [begins(*[65535] * 32)] + [page(*[1] * 32)] * 8 + [set_page(number) for number in range(8)]
        self.assertEqual(self.ask_often(house, plan(*[0] * 7 + [255])), [[0] + [255] * 8] * 43)
        self.assertEqual(self.ask_often(house, plan(*[0] * 8)), [[0] * 9] * 43)

    def test_all_of_them_by_turns(self):
        asked = [fits(255), fullest(), turns(), bought(4), plan(*[3, 12, 48, 192] * 2)]
        told = self.ask_often(self.house(6000), *asked)
        self.assertEqual(told, (told[:5] * 60)[:51])


if __name__ == "__main__":
    unittest.main()
