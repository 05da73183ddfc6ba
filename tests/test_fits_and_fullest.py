"""Point 5: fits and fullest."""

import random
import unittest

from lines import GREATEST, ask, back, begins, buy, fits, fullest, last, page, set_page


class Fits(unittest.TestCase):
    def test_one_and_nothing_lacking(self):
        house = [begins(5, 5), page(2, 1), page(3, 4), page(1, 1)]
        self.assertEqual(last(*house, fits(1)), [1, 0, 0])
        self.assertEqual(last(*house, fits(3)), [1, 0, 0])

    def test_nought_and_what_is_lacking_of_each_letter(self):
        house = [begins(5, 5, 5), page(2, 1, 0), page(3, 4, 9), page(1, 1, 1)]
        self.assertEqual(last(*house, fits(2)), [0, 0, 0, 4])
        self.assertEqual(last(*house, fits(7)), [0, 1, 1, 5])
        self.assertEqual(last(*house, fits(6)), [0, 0, 0, 5])
        self.assertEqual(last(*house, fits(5)), [1, 0, 0, 0])

    def test_one_letter_too_few(self):
        self.assertEqual(last(begins(9, 4, 9), page(2, 2, 2), page(3, 3, 3), fits(3)), [0, 0, 1, 0])
        self.assertEqual(last(begins(9, 5, 9), page(2, 2, 2), page(3, 3, 3), fits(3)), [1, 0, 0, 0])

    def test_whatever_stands_now(self):
        told = ask(begins(5), page(3), page(4), page(2), fits(2), fits(3), set_page(0), fits(1), fits(2), fits(3),
                   fits(5), fits(0), back(0), fits(2))
        self.assertEqual(told[4:], [[1, 0], [0, 2], [3], [1, 0], [1, 0], [0, 2], [1, 0], [1, 0], [0], [1, 0]])

    def test_what_was_bought_is_in_the_case(self):
        told = ask(begins(5, 0), page(6, 2), fits(1), buy(0, 1), fits(1), buy(1, 3), fits(1))
        self.assertEqual(told[2:], [[0, 1, 2], [6], [0, 0, 2], [3], [1, 0, 0]])

    def test_no_page_at_all(self):
        self.assertEqual(last(begins(0, 3), fits(0)), [1, 0, 0])
        self.assertEqual(last(begins(0, 3), page(9, 9), fits(0)), [1, 0, 0])

    def test_a_page_that_wants_nothing(self):
        self.assertEqual(last(begins(0, 0), page(0, 0), fits(1)), [1, 0, 0])

    def test_all_of_everything(self):
        house = [begins(*[65535] * 32)] + [page(*[65535] * 32)] * 8
        self.assertEqual(last(*house, fits(255)), [0] + [7 * 65535] * 32)
        self.assertEqual(last(*house, fits(128)), [1] + [0] * 32)

    def test_a_page_that_there_is_not(self):
        house = [begins(9), page(1), page(1)]
        self.assertEqual(last(*house, fits(3)), [1, 0])
        for mask in (4, 5, 7, 8, 128, 256, 1 << 31, GREATEST - 3, GREATEST):
            self.assertEqual(last(*house, fits(mask)), [-2], mask)
        eight = [begins(9)] + [page(1)] * 8
        self.assertEqual(ask(*eight, fits(255), fits(256), fits(511), fits(GREATEST))[9:], [[1, 0], [-2], [-2], [-2]])
        self.assertEqual(last(begins(9), fits(1)), [-2])

    def test_no_case_yet(self):
        self.assertEqual(ask(fits(0), fits(1), fits(GREATEST)), [[1], [-2], [-2]])

    def test_a_new_case_has_no_pages(self):
        self.assertEqual(last(begins(9), page(1), begins(9), fits(1)), [-2])


class Fullest(unittest.TestCase):
    def test_several_sets_rising(self):
        self.assertEqual(last(begins(5), page(2), page(3), page(4), page(1), fullest()), [4, 3, 9, 10, 12])
        self.assertEqual(last(begins(5), page(4), page(3), page(2), page(1), fullest()), [4, 6, 9, 10, 12])

    def test_all_pages_at_once(self):
        self.assertEqual(last(begins(9, 9), page(1, 2), page(3, 4), page(5, 3), fullest()), [1, 7])

    def test_each_letter_counts(self):
        self.assertEqual(last(begins(9, 2, 9), page(1, 1, 1), page(1, 1, 1), page(1, 1, 1), fullest()), [3, 3, 5, 6])

    def test_a_page_that_cannot_stand_by_itself(self):
        self.assertEqual(last(begins(5), page(2), page(6), page(3), fullest()), [1, 5])
        self.assertEqual(last(begins(5), page(6), fullest()), [1, 0])
        self.assertEqual(last(begins(5, 0), page(6, 0), page(0, 1), fullest()), [1, 0])

    def test_a_page_that_wants_nothing_is_in_each(self):
        self.assertEqual(last(begins(3), page(3), page(0), page(2), fullest()), [2, 3, 6])

    def test_no_pages(self):
        self.assertEqual(last(begins(5), fullest()), [1, 0])
        self.assertEqual(last(fullest()), [1, 0])

    def test_eight_pages(self):
        house = [begins(4)] + [page(1)] * 8
        fours = [mask for mask in range(256) if bin(mask).count("1") == 4]
        self.assertEqual(last(*house, fullest()), [70] + fours)
        self.assertEqual(last(begins(8), *house[1:], fullest()), [1, 255])
        self.assertEqual(last(begins(1), *house[1:], fullest()), [8] + [1, 2, 4, 8, 16, 32, 64, 128])
        self.assertEqual(last(begins(0), *house[1:], fullest()), [1, 0])

    def test_eight_pages_and_32_letters(self):
        wants = [[2 if letter == number else 1 for letter in range(32)] for number in range(8)]
        told = last(begins(*[3] * 32), *[page(*each) for each in wants], fullest())
        self.assertEqual(told, [28] + [mask for mask in range(256) if bin(mask).count("1") == 2])

    def test_whatever_stands_now(self):
        told = ask(begins(5), page(4), page(3), page(2), set_page(0), fullest(), back(0), set_page(1), fullest())
        self.assertEqual(told[5], [2, 1, 6])
        self.assertEqual(told[8], [2, 1, 6])

    def test_what_was_bought_is_in_the_case(self):
        told = ask(begins(5), page(4), page(3), fullest(), buy(0, 2), fullest())
        self.assertEqual(told[3:], [[2, 1, 2], [7], [1, 3]])


class Drawn(unittest.TestCase):
    """Houses drawn from fixed seeds, against pages that are taken one by one from the words alone."""

    def test_all_masks_of_drawn_houses(self):
        for seed in range(60):
            source = random.Random(seed)
            letters, number = source.randint(1, 4), source.randint(0, 5)
            case = [source.randint(0, 9) for letter in range(letters)]
            pages = [[source.randint(0, 5) for letter in range(letters)] for one in range(number)]
            house = [begins(*case)] + [page(*each) for each in pages]
            fit = []
            for mask in range(1 << number):
                chosen = [pages[one] for one in range(number) if mask & (1 << one)]
                lacking = [max(0, sum(each[letter] for each in chosen) - case[letter]) for letter in range(letters)]
                self.assertEqual(last(*house, fits(mask)), [int(not any(lacking))] + lacking, f"seed {seed}")
                if not any(lacking):
                    fit.append(mask)
            full = [mask for mask in fit if not any(mask != other and mask | other == other for other in fit)]
            self.assertEqual(last(*house, fullest()), [len(full)] + full, f"seed {seed}")


if __name__ == "__main__":
    unittest.main()
