"""Points 6 and 7: turns and bought."""

import random
import unittest

from lines import GREATEST, ask, back, begins, bought, buy, last, page, set_page, turns

SINGLES = [1, 2, 4, 8, 16, 32, 64, 128]


class Turns(unittest.TestCase):
    def test_as_few_parts_as_can_be(self):
        self.assertEqual(last(begins(9, 9), page(1, 2), page(3, 4), page(5, 3), turns()), [1, 7])
        self.assertEqual(last(begins(5), page(3), page(3), page(2), page(2), turns()), [2, 5, 10])
        self.assertEqual(last(begins(5), page(4), page(3), page(3), turns()), [3, 1, 2, 4])

    def test_not_the_fullest_part_first(self):
        # 4 and 4 go with 2 and 2; who takes 2, 2 and 2 together first needs a turn more.
        self.assertEqual(last(begins(6), page(2), page(2), page(2), page(4), page(4), page(4), turns()),
                         [3, 9, 18, 36])

    def test_of_several_rows_the_first(self):
        self.assertEqual(last(begins(2), page(1), page(1), page(1), turns()), [2, 1, 6])
        self.assertEqual(last(begins(3), page(1), page(1), page(1), page(1), turns()), [2, 1, 14])
        self.assertEqual(last(begins(3), page(2), page(1), page(1), page(2), turns()), [2, 3, 12])

    def test_the_first_row_is_told_by_the_later_parts_too(self):
        # Page 0 stands alone anyhow; the others go two and two.
        self.assertEqual(last(begins(4), page(4), page(2), page(2), page(2), page(2), turns()), [3, 1, 6, 24])

    def test_parts_in_order_of_their_lowest_pages(self):
        # 9 has the greater mask but the lower page.
        self.assertEqual(last(begins(5), page(2), page(4), page(1), page(3), turns()), [2, 9, 6])

    def test_each_letter_counts(self):
        self.assertEqual(last(begins(9, 1), page(1, 1), page(1, 1), page(1, 0), turns()), [2, 1, 6])

    def test_pages_that_want_nothing(self):
        self.assertEqual(last(begins(0), page(0), page(0), turns()), [1, 3])

    def test_no_pages(self):
        self.assertEqual(last(begins(5), turns()), [0])
        self.assertEqual(last(turns()), [0])
        self.assertEqual(last(begins(5), page(9), begins(5), turns()), [0])

    def test_a_page_that_cannot_stand_by_itself(self):
        self.assertEqual(last(begins(5), page(6), turns()), [-4])
        self.assertEqual(last(begins(5, 5), page(1, 1), page(2, 2), page(0, 6), turns()), [-4])
        self.assertEqual(last(begins(5), page(5), turns()), [1, 1])
        self.assertEqual(last(begins(5), *[page(0)] * 7, page(6), turns()), [-4])

    def test_what_was_bought_is_in_the_case(self):
        told = ask(begins(5), page(6), page(1), turns(), buy(0, 1), turns(), buy(0, 1), turns())
        self.assertEqual(told[3:], [[-4], [6], [2, 1, 2], [7], [1, 3]])

    def test_whatever_stands_now(self):
        told = ask(begins(5), page(3), page(4), page(2), set_page(1), turns(), back(1), set_page(0), turns())
        self.assertEqual(told[5], [2, 5, 2])
        self.assertEqual(told[8], [2, 5, 2])

    def test_eight_pages(self):
        eight = [page(1)] * 8
        self.assertEqual(last(begins(8), *eight, turns()), [1, 255])
        self.assertEqual(last(begins(7), *eight, turns()), [2, 1, 254])
        self.assertEqual(last(begins(4), *eight, turns()), [2, 15, 240])
        self.assertEqual(last(begins(3), *eight, turns()), [3, 3, 28, 224])
        self.assertEqual(last(begins(1), *eight, turns()), [8] + SINGLES)

    def test_eight_pages_and_32_letters(self):
        # Page k goes with page 7 - k alone: any other two share a letter of which they want one too many.
        apart = [(one, other) for one in range(8) for other in range(one) if one + other != 7]
        wants = [[2 if number in two else 0 for two in apart] + [1] * 8 for number in range(8)]
        house = [begins(*[3] * 32)] + [page(*each) for each in wants]
        self.assertEqual(last(*house, turns()), [4, 129, 66, 36, 24])


class Bought(unittest.TestCase):
    def test_one_part(self):
        self.assertEqual(last(begins(5, 5, 5), page(2, 1, 0), page(3, 4, 9), page(1, 1, 1), bought(1)),
                         [7, 1, 1, 5, 7])

    def test_as_few_letters_in_all_as_can_be(self):
        # 4 and 1 beside 3 and 2: each other row has a part that wants more than 5.
        self.assertEqual(last(begins(0), page(4), page(3), page(2), page(1), bought(2)), [5, 5, 9, 6])
        self.assertEqual(last(begins(0), page(4), page(3), page(2), page(1), bought(1)), [10, 10, 15])
        self.assertEqual(last(begins(0), page(4), page(3), page(2), page(1), bought(3)), [4, 4, 1, 2, 12])

    def test_of_each_letter_what_the_part_wants_that_wants_most(self):
        self.assertEqual(last(begins(1, 1, 1), page(3, 0, 2), page(0, 5, 2), bought(2)), [7, 2, 4, 1, 1, 2])
        self.assertEqual(last(begins(1, 1, 1), page(3, 0, 2), page(0, 5, 2), bought(1)), [9, 2, 4, 3, 3])

    def test_letters_in_all_count_not_the_most_of_one(self):
        # Pages 1 and 2 together lack 2 and 2, pages 0 and 1 lack 3 of one letter.
        self.assertEqual(last(begins(4, 4), page(4, 2), page(3, 2), page(3, 4), bought(2)), [3, 3, 0, 3, 4])

    def test_of_several_rows_the_first(self):
        self.assertEqual(last(begins(0), page(1), page(1), page(1), bought(2)), [2, 2, 1, 6])
        self.assertEqual(last(begins(0), page(1), page(1), page(1), page(1), bought(2)), [2, 2, 3, 12])
        self.assertEqual(last(begins(0), page(1), page(1), page(1), page(1), bought(3)), [2, 2, 1, 2, 12])

    def test_a_row_with_more_parts_before_one_with_fewer(self):
        # All could stand at once, but 1 is less than 7, and 2 less than 6.
        house = [begins(9), page(1), page(1), page(1)]
        self.assertEqual(last(*house, bought(1)), [0, 0, 7])
        self.assertEqual(last(*house, bought(2)), [0, 0, 1, 6])
        self.assertEqual(last(*house, bought(3)), [0, 0, 1, 2, 4])

    def test_parts_in_order_of_their_lowest_pages(self):
        self.assertEqual(last(begins(5), page(2), page(4), page(1), page(3), bought(2)), [0, 0, 9, 6])

    def test_nothing_to_be_bought(self):
        self.assertEqual(last(begins(5, 5), page(5, 1), page(1, 5), bought(2)), [0, 0, 0, 1, 2])
        self.assertEqual(last(begins(0), page(0), page(0), bought(1)), [0, 0, 3])

    def test_a_page_that_cannot_stand_by_itself(self):
        self.assertEqual(last(begins(5, 5), page(6, 1), page(1, 9), bought(2)), [5, 1, 4, 1, 2])

    def test_t_of_nought(self):
        self.assertEqual(last(begins(5), page(1), bought(0)), [-4])
        self.assertEqual(last(begins(5), page(0), bought(0)), [-4])
        self.assertEqual(last(begins(5, 6), bought(0)), [0, 0, 0])
        self.assertEqual(last(bought(0)), [0])

    def test_no_pages(self):
        for t in (1, 2, 8, GREATEST):
            self.assertEqual(last(begins(5, 6, 7), bought(t)), [0, 0, 0, 0])
            self.assertEqual(last(bought(t)), [0])

    def test_t_above_the_number_of_pages(self):
        house = [begins(3, 3), page(4, 1), page(1, 5), page(2, 2)]
        for t in (3, 4, 8, 9, 255, 65536, GREATEST):
            self.assertEqual(last(*house, bought(t)), [3, 1, 2, 1, 2, 4], t)

    def test_no_more_than_t_parts(self):
        house = [begins(0)] + [page(1)] * 8
        rows = [last(*house, bought(t))[2:] for t in range(1, 10)]
        self.assertEqual(rows, [
            [255], [15, 240], [3, 28, 224], [3, 12, 48, 192], [1, 2, 12, 48, 192], [1, 2, 4, 8, 48, 192],
            [1, 2, 4, 8, 16, 32, 192], SINGLES, SINGLES])

    def test_more_than_a_case_may_have(self):
        self.assertEqual(last(begins(65535), page(65535), page(65535), bought(1)), [65535, 65535, 3])

    def test_whatever_stands_now(self):
        told = ask(begins(5), page(3), page(4), page(2), set_page(1), bought(1), back(1), set_page(0), bought(1))
        self.assertEqual(told[5], [4, 4, 7])
        self.assertEqual(told[8], [4, 4, 7])

    def test_what_was_bought_is_in_the_case(self):
        told = ask(begins(5), page(4), page(3), bought(1), buy(0, 1), bought(1), buy(0, 1), bought(1))
        self.assertEqual(told[3:], [[2, 2, 3], [6], [1, 1, 3], [7], [0, 0, 3]])

    def test_eight_pages_and_32_letters(self):
        house = [begins(*[0] * 32)] + [page(*[65535] * 32)] * 8
        self.assertEqual(last(*house, bought(1)), [8 * 65535 * 32] + [8 * 65535] * 32 + [255])
        self.assertEqual(last(*house, bought(2)), [4 * 65535 * 32] + [4 * 65535] * 32 + [15, 240])
        self.assertEqual(last(*house, bought(8)), [65535 * 32] + [65535] * 32 + SINGLES)


def rows_of(pages):
    """All rows of parts, each page put into each part there is and into one of its own, in no order."""
    rows = [[]]
    for number in range(pages):
        bit = 1 << number
        rows = [row[:at] + [row[at] | bit] + row[at + 1:] for row in rows for at in range(len(row))] \
            + [row + [bit] for row in rows]
    return rows


class Drawn(unittest.TestCase):
    """Houses drawn from fixed seeds, against all rows of parts there are."""

    def lacking(self, case, pages, row):
        each = [0] * len(case)
        for letter, there in enumerate(case):
            for part in row:
                wants = sum(one[letter] for number, one in enumerate(pages) if part >> number & 1)
                each[letter] = max(each[letter], wants - there)
        return each

    def compare(self, seed, most_pages, most_letters):
        source = random.Random(seed)
        letters, number = source.randint(1, most_letters), source.randint(0, most_pages)
        most = source.choice([1, 2, 6, 6, 12])
        pages = [[source.randint(0, most) for letter in range(letters)] for one in range(number)]
        case = [source.randint(most // 2, 3 * most) for letter in range(letters)]
        house = [begins(*case)] + [page(*each) for each in pages]
        reckoned = [(row, self.lacking(case, pages, row)) for row in rows_of(number)]
        standing = [(len(row), row) for row, each in reckoned if not any(each)]
        alone = not any(self.lacking(case, pages, [1 << one for one in range(number)]))
        if alone:
            count, row = min(standing)
            self.assertEqual(last(*house, turns()), [count] + row, f"seed {seed}")
        else:
            self.assertEqual(last(*house, turns()), [-4], f"seed {seed}")
        for t in range(number + 2):
            few = [(sum(each), row, each) for row, each in reckoned if len(row) <= t]
            if few:
                total, row, each = min(few)
                self.assertEqual(last(*house, bought(t)), [total] + each + row, f"seed {seed}, t {t}")
            else:
                self.assertEqual(last(*house, bought(t)), [-4], f"seed {seed}, t {t}")

    def test_up_to_five_pages(self):
        for seed in range(150):
            self.compare(seed, 5, 4)

    def test_up_to_eight_pages(self):
        for seed in range(1000, 1008):
            self.compare(seed, 8, 3)


if __name__ == "__main__":
    unittest.main()
