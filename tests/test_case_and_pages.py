"""Points 1 and 2: begins, page and buy."""

import unittest

from lines import GREATEST, ask, back, begins, buy, last, left, page, set_page

EIGHT_PAGES = [page(1, 0)] * 8


class Begins(unittest.TestCase):
    def test_that_is_the_case(self):
        self.assertEqual(ask(begins(4, 0, 7), left()), [[0], [11, 4, 0, 7]])

    def test_1_and_32_letters(self):
        self.assertEqual(ask(begins(3), left()), [[0], [3, 3]])
        letters = list(range(32))
        self.assertEqual(ask(begins(*letters), left()), [[0], [sum(letters)] + letters])

    def test_0_and_33_letters(self):
        self.assertEqual(last(begins()), [-1])
        self.assertEqual(last(begins(*[0] * 33)), [-1])
        self.assertEqual(last(begins(*[0] * 99)), [-1])

    def test_65535_of_a_letter(self):
        self.assertEqual(ask(begins(65535), left()), [[0], [65535, 65535]])
        every = [65535] * 32
        self.assertEqual(ask(begins(*every), left()), [[0], [65535 * 32] + every])

    def test_65536_of_a_letter(self):
        self.assertEqual(last(begins(65536)), [-1])
        self.assertEqual(last(begins(65536, 1, 1)), [-1])
        self.assertEqual(last(begins(1, 65536, 1)), [-1])
        self.assertEqual(last(begins(1, 1, 65536)), [-1])
        self.assertEqual(last(begins(*[0] * 31, 65536)), [-1])
        self.assertEqual(last(begins(GREATEST)), [-1])

    def test_a_case_with_nothing_in_it(self):
        self.assertEqual(ask(begins(0, 0), left(), page(0, 0)), [[0], [0, 0, 0], [0]])

    def test_once_more_there_are_no_pages(self):
        told = ask(begins(9), page(1), page(2), begins(9), set_page(0), back(0), page(3), set_page(0))
        self.assertEqual(told[3:], [[0], [-2], [-2], [0], [3]])

    def test_once_more_nothing_stands_and_nothing_has_been_set(self):
        told = ask(begins(9), page(1), page(2), set_page(1), set_page(0),
                   begins(8), left(), page(4), page(2), back(0), back(1), set_page(1), back(1))
        self.assertEqual(told[5:], [[0], [8, 8], [0], [1], [-3], [-3], [2], [0]])

    def test_once_more_what_was_bought_is_gone(self):
        self.assertEqual(last(begins(1, 1), buy(0, 5), begins(1, 1), left()), [2, 1, 1])

    def test_once_more_with_other_letters(self):
        told = ask(begins(9, 9), begins(1, 2, 3), left(), page(1, 1), page(1, 1, 1), buy(2, 1))
        self.assertEqual(told[1:], [[0], [6, 1, 2, 3], [-1], [0], [4]])
        self.assertEqual(ask(begins(9, 9), begins(4), buy(1, 1), left())[2:], [[-2], [4, 4]])

    def test_once_more_after_eight_pages(self):
        told = ask(begins(9, 9), *EIGHT_PAGES, begins(9, 9), page(0, 0))
        self.assertEqual(told[-2:], [[0], [0]])

    def test_a_refusal_changes_nothing(self):
        for wrong in (begins(), begins(*[0] * 33), begins(65536), begins(1, 65536)):
            told = ask(begins(9, 8), page(1, 2), page(2, 0), set_page(0), buy(1, 1), wrong,
                       left(), set_page(1), page(0, 0), back(0))
            self.assertEqual(told[5:], [[-1], [15, 8, 7], [5], [2], [2]])

    def test_a_refusal_at_first_leaves_no_case(self):
        self.assertEqual(ask(begins(1, 65536), left(), page(1, 1), buy(0, 0)), [[-1], [0], [-1], [-2]])


class Page(unittest.TestCase):
    def test_numbered_from_0_to_7(self):
        told = ask(begins(9, 9), *EIGHT_PAGES)
        self.assertEqual(told[1:], [[number] for number in range(8)])

    def test_the_ninth(self):
        told = ask(begins(9, 9), *EIGHT_PAGES, page(1, 0), page(0, 0), set_page(8), set_page(7))
        self.assertEqual(told[9:], [[-5], [-5], [-2], [1]])

    def test_wrong_numbers_count_before_too_many_pages(self):
        told = ask(begins(9, 9), *EIGHT_PAGES, page(1), page(1, 1, 1), page(0, 65536), page())
        self.assertEqual(told[9:], [[-1]] * 4)

    def test_not_as_many_numbers_as_letters(self):
        told = ask(begins(9, 9), page(), page(1), page(1, 1, 1), page(*[0] * 99), page(1, 1))
        self.assertEqual(told[1:], [[-1]] * 4 + [[0]])

    def test_65535_and_65536_of_a_letter(self):
        told = ask(begins(1, 1), page(65535, 65535), page(65536, 0), page(0, 65536), page(GREATEST, 0), page(0, 65535))
        self.assertEqual(told[1:], [[0], [-1], [-1], [-1], [1]])

    def test_65535_of_each_of_32_letters(self):
        every = [65535] * 32
        told = ask(begins(*every), page(*every), set_page(0), left(), page(*every[1:]), page(*every, 0))
        self.assertEqual(told[1:], [[0], [65535 * 32], [0] * 33, [-1], [-1]])

    def test_no_case_yet(self):
        self.assertEqual(ask(page(), page(1), page(65536), begins(1), page(1)), [[-1], [-1], [-1], [0], [0]])

    def test_more_than_the_case_has_may_be_wanted(self):
        self.assertEqual(last(begins(1, 1), page(2, 65535)), [0])

    def test_it_takes_nothing_before_it_is_set(self):
        self.assertEqual(ask(begins(5), page(3), left(), back(0)), [[0], [0], [5, 5], [-3]])

    def test_a_refusal_changes_nothing(self):
        told = ask(begins(5, 5), page(1, 2), page(1), page(0, 65536), page(3, 1), set_page(1), set_page(2), left())
        self.assertEqual(told[2:], [[-1], [-1], [1], [4], [-2], [6, 2, 4]])


class Buy(unittest.TestCase):
    def test_so_many_more_of_that_letter(self):
        told = ask(begins(1, 2, 3), buy(0, 4), buy(2, 5), buy(2, 1), left())
        self.assertEqual(told[1:], [[5], [8], [9], [16, 5, 2, 9]])

    def test_none_more(self):
        self.assertEqual(ask(begins(1, 2), buy(1, 0), left())[1:], [[2], [3, 1, 2]])

    def test_what_the_case_has_counts_not_what_is_left(self):
        told = ask(begins(5), page(4), set_page(0), buy(0, 2), left())
        self.assertEqual(told[3:], [[7], [3, 3]])
        told = ask(begins(65535), page(65535), set_page(0), buy(0, 1), buy(0, 0), left())
        self.assertEqual(told[3:], [[-5], [65535], [0, 0]])

    def test_65535_and_65536(self):
        self.assertEqual(ask(begins(0, 1), buy(0, 65535), buy(0, 0), buy(0, 1))[1:], [[65535], [65535], [-5]])
        self.assertEqual(ask(begins(0, 1), buy(1, 65535), buy(1, 65534))[1:], [[-5], [65535]])
        self.assertEqual(last(begins(0), buy(0, 65536)), [-5])
        self.assertEqual(last(begins(0), buy(0, GREATEST)), [-5])

    def test_no_such_letter(self):
        told = ask(begins(1, 2), buy(2, 1), buy(32, 1), buy(GREATEST, 1), buy(1, 1))
        self.assertEqual(told[1:], [[-2], [-2], [-2], [3]])
        every = [1] * 32
        self.assertEqual(ask(begins(*every), buy(31, 1), buy(32, 1))[1:], [[2], [-2]])

    def test_no_case_yet(self):
        self.assertEqual(ask(buy(0, 0), buy(0, GREATEST)), [[-2], [-2]])

    def test_no_such_letter_counts_before_too_many(self):
        told = ask(begins(65535), buy(1, 65536), buy(GREATEST, GREATEST))
        self.assertEqual(told[1:], [[-2], [-2]])

    def test_a_refusal_changes_nothing(self):
        told = ask(begins(6, 7), buy(0, 65535), buy(2, 1), left(), buy(0, 1))
        self.assertEqual(told[1:], [[-5], [-2], [13, 6, 7], [7]])

    def test_pages_stay_and_one_that_could_not_stand_can(self):
        told = ask(begins(1), page(1), page(1), set_page(0), set_page(1), buy(0, 1), set_page(1), back(0))
        self.assertEqual(told[3:], [[1], [-4, 0], [2], [2], [2]])


if __name__ == "__main__":
    unittest.main()
