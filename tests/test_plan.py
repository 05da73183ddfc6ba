"""Point 8: plan."""

import random
import unittest

from lines import GREATEST, ask, back, begins, buy, last, page, plan, set_page


class Plan(unittest.TestCase):
    def test_one_forme_is_set(self):
        house = [begins(9, 9), page(1, 2), page(3, 4), page(2, 2)]
        self.assertEqual(last(*house, plan(1)), [3, 1])
        self.assertEqual(last(*house, plan(6)), [11, 6])

    def test_pages_of_an_earlier_forme_are_kept(self):
        self.assertEqual(last(begins(9), page(3), page(4), plan(1, 2, 1)), [7, 1, 3, 1])
        self.assertEqual(last(begins(9), page(3), page(4), page(2), plan(1, 2, 4, 1)), [9, 1, 3, 5, 1])

    def test_pages_of_an_earlier_forme_are_put_back_for_want_of_letters(self):
        self.assertEqual(last(begins(5), page(3), page(4), plan(1, 2, 1)), [10, 1, 2, 1])

    def test_what_costs_more_to_set_again_is_kept(self):
        # Beside page 2 only one of the others can stand.
        house = [begins(9), page(3), page(4), page(5)]
        self.assertEqual(last(*house, plan(3, 4, 3)), [15, 3, 6, 3])
        self.assertEqual(last(begins(9), page(4), page(3), page(5), plan(3, 4, 3)), [15, 3, 5, 3])

    def test_what_is_printed_again_is_kept(self):
        # Page 0 can stay beside each of the others, and is wanted at the end.
        house = [begins(10), page(2), page(6), page(3), page(8)]
        self.assertEqual(last(*house, plan(3, 4, 8, 1)), [19, 3, 5, 9, 1])

    def test_a_page_that_stands_now_is_not_set(self):
        told = ask(begins(9), page(3), page(4), set_page(0), plan(1), plan(2), plan(3), plan(2, 1), set_page(1),
                   plan(3), plan(1, 2))
        self.assertEqual(told[4:], [[0, 1], [4, 2], [4, 3], [4, 3, 1], [7], [0, 3], [0, 3, 2]])

    def test_a_page_that_stands_now_is_put_back_for_want_of_letters(self):
        told = ask(begins(5), page(3), page(4), set_page(0), plan(2), plan(2, 1), plan(1, 2))
        self.assertEqual(told[4:], [[4, 2], [7, 2, 1], [4, 1, 2]])

    def test_a_page_that_stood_and_was_put_back_is_set(self):
        told = ask(begins(9), page(3), page(4), set_page(0), back(0), plan(1))
        self.assertEqual(told[5], [3, 1])

    def test_only_pages_that_stood_or_are_of_the_forme_stand(self):
        # Page 1 is not set ahead of its forme, though there are letters for it.
        self.assertEqual(last(begins(9), page(3), page(4), plan(1, 1, 2)), [7, 1, 1, 2])

    def test_a_page_put_back_once_is_not_there_later(self):
        # Pages 0 and 2 together want too much: page 0 is set twice, whatever stands behind the second forme.
        self.assertEqual(last(begins(6), page(3), page(1), page(4), plan(1, 4, 2, 1)), [11, 1, 4, 2, 1])

    def test_of_several_rows_the_first(self):
        # Either of pages 0 and 1 can be kept beside page 2, the other is set again.
        house = [begins(8), page(4), page(4), page(4)]
        self.assertEqual(last(*house, plan(3, 4, 3)), [16, 3, 5, 3])
        told = ask(*house, set_page(0), set_page(1), plan(4, 3), plan(4, 2, 1))
        self.assertEqual(told[6:], [[8, 5, 3], [8, 5, 3, 1]])

    def test_of_several_rows_the_one_with_fewer_pages_kept(self):
        # A page that isn't printed again needn't be kept.
        self.assertEqual(last(begins(9), page(3), page(4), plan(1, 2)), [7, 1, 2])
        # A page without letters costs nothing to set again.
        self.assertEqual(last(begins(9), page(0), page(4), plan(1, 2, 1)), [4, 1, 2, 1])

    def test_the_lesser_mask_counts_at_the_first_place(self):
        # Page 0 or 1 may stay at the second forme; 5 is less than 6, though page 1 is printed first behind it.
        house = [begins(8), page(4), page(4), page(4)]
        self.assertEqual(last(*house, plan(3, 4, 2, 1)), [16, 3, 5, 3, 1])

    def test_the_same_forme_again_and_again(self):
        self.assertEqual(last(begins(9), page(3), page(4), plan(3, 3, 3)), [7, 3, 3, 3])

    def test_an_empty_forme(self):
        self.assertEqual(last(begins(9), page(3), plan(0)), [0, 0])
        self.assertEqual(last(begins(9), page(3), plan(0, 0, 0)), [0, 0, 0, 0])
        self.assertEqual(last(begins(9), page(3), plan(1, 0, 1)), [3, 1, 1, 1])
        self.assertEqual(last(begins(9), page(3), plan(1, 0)), [3, 1, 0])
        self.assertEqual(last(begins(9), page(3), page(2), set_page(0), set_page(1), plan(0, 2)), [0, 2, 2])

    def test_no_formes(self):
        self.assertEqual(last(begins(9), page(3), plan()), [0])
        self.assertEqual(last(begins(9), page(3), set_page(0), plan()), [0])
        self.assertEqual(last(begins(9), plan()), [0])

    def test_no_case_and_no_pages(self):
        self.assertEqual(ask(plan(), plan(0), plan(0, 0), plan(1), plan(*[0] * 8), plan(*[0] * 9)),
                         [[0], [0, 0], [0, 0, 0], [-2], [0] * 9, [-2]])
        self.assertEqual(ask(begins(9), plan(0), plan(1))[1:], [[0, 0], [-2]])

    def test_eight_formes(self):
        eight = [page(k) for k in range(1, 9)]
        singles = [1 << k for k in range(8)]
        self.assertEqual(last(begins(36), *eight, plan(*singles)), [36] + singles)
        self.assertEqual(last(begins(36), *eight, plan(255, *singles[:6], 255)), [36] + [255] * 8)
        self.assertEqual(last(begins(36), *eight, plan(*[255] * 8)), [36] + [255] * 8)

    def test_more_than_eight_formes(self):
        for count in (9, 10, 98, 99):
            self.assertEqual(last(begins(9), page(3), plan(*[1] * count)), [-2])
            self.assertEqual(last(begins(9), page(3), plan(*[0] * count)), [-2])
        self.assertEqual(last(begins(9), page(3), plan(*[1] * 8)), [3] + [1] * 8)

    def test_a_page_that_there_is_not(self):
        house = [begins(9), page(3), page(4)]
        for wrong in (4, 5, 7, 8, 128, 256, 1 << 31, GREATEST - 3, GREATEST):
            self.assertEqual(last(*house, plan(wrong)), [-2], wrong)
            self.assertEqual(last(*house, plan(1, 2, wrong)), [-2], wrong)
            self.assertEqual(last(*house, plan(wrong, 1)), [-2], wrong)
        eight = [begins(9)] + [page(1)] * 8
        self.assertEqual(ask(*eight, plan(255), plan(256), plan(255, 511))[9:], [[8, 255], [-2], [-2]])

    def test_a_forme_that_cannot_stand(self):
        house = [begins(5, 5), page(3, 1), page(4, 1), page(1, 6)]
        self.assertEqual(last(*house, plan(3)), [-4])
        self.assertEqual(last(*house, plan(1, 2, 3)), [-4])
        self.assertEqual(last(*house, plan(4, 1)), [-4])
        self.assertEqual(last(*house, set_page(0), plan(1, 4)), [-4])
        self.assertEqual(last(*house, set_page(0), plan(2)), [5, 2])

    def test_no_such_page_counts_before_what_cannot_stand(self):
        house = [begins(5), page(3), page(4), page(6)]
        self.assertEqual(last(*house, plan(3, 8)), [-2])
        self.assertEqual(last(*house, plan(8, 3)), [-2])
        self.assertEqual(last(*house, plan(4, 4, GREATEST)), [-2])
        self.assertEqual(last(*house, plan(15)), [-2])
        self.assertEqual(last(*house, plan(*[3] * 9)), [-2])
        self.assertEqual(last(*house, plan(*[4] * 99)), [-2])
        self.assertEqual(last(*house, plan(*[3] * 8)), [-4])

    def test_what_was_bought_is_in_the_case(self):
        told = ask(begins(5), page(3), page(4), plan(3), plan(1, 2, 1), buy(0, 2), plan(3), plan(1, 2, 1))
        self.assertEqual(told[3:], [[-4], [10, 1, 2, 1], [7], [7, 3], [7, 1, 3, 1]])

    def test_each_letter_counts(self):
        self.assertEqual(last(begins(9, 9, 1), page(1, 1, 1), page(1, 1, 1), plan(1, 2, 1)), [9, 1, 2, 1])

    def test_nothing_is_set_or_put_back_by_it(self):
        told = ask(begins(9), page(3), page(4), page(5), set_page(0), plan(2, 4, 1), set_page(0), set_page(1),
                   plan(4, 3), back(0), back(1), set_page(2))
        self.assertEqual(told[4:], [[3], [9, 3, 5, 1], [-3], [7], [8, 6, 3], [2], [0], [12]])

    def test_all_of_everything(self):
        house = [begins(*[65535] * 32)] + [page(*[65535] * 32)] * 8
        self.assertEqual(last(*house, plan(*[1 << k for k in range(8)])),
                         [8 * 32 * 65535] + [1 << k for k in range(8)])
        self.assertEqual(last(*house, plan(*[1, 2] * 4)), [8 * 32 * 65535] + [1, 2] * 4)


class Drawn(unittest.TestCase):
    """Houses drawn from fixed seeds, against all rows of masks there are."""

    def stand(self, case, pages, mask):
        return all(sum(each[letter] for number, each in enumerate(pages) if mask >> number & 1) <= there
                   for letter, there in enumerate(case))

    def rows(self, case, pages, formes, standing):
        """All rows, each with what is set for it, forme by forme from the first on."""
        found = [(0, [], standing)]
        for forme in formes:
            following = []
            for cost, row, before in found:
                new = sum(sum(each) for number, each in enumerate(pages) if forme & ~before & 1 << number)
                for mask in range(1 << len(pages)):
                    if mask & forme == forme and mask & ~(before | forme) == 0 and self.stand(case, pages, mask):
                        following.append((cost + new, row + [mask], mask))
            found = following if len(pages) < 6 else self.thinned(following)
        return [(cost, row) for cost, row, before in found]

    def thinned(self, found):
        """Of rows that end alike the best alone: with many pages there are too many to go on with all."""
        best = {}
        for one in sorted(found):
            best.setdefault(one[2], one)
        return list(best.values())

    def compare(self, seed, most_pages, most_formes):
        source = random.Random(seed)
        letters, number = source.randint(1, 3), source.randint(1, most_pages)
        pages = [[source.randint(0, 4) for letter in range(letters)] for one in range(number)]
        case = [source.randint(3, 9) for letter in range(letters)]
        now = 0
        for one in source.sample(range(number), source.randint(0, number)):
            if self.stand(case, pages, now | 1 << one):
                now |= 1 << one
        fit = [mask for mask in range(1 << number) if self.stand(case, pages, mask)]
        formes = [source.choice(fit) for one in range(source.randint(0, most_formes))]
        if source.random() < 0.1:
            formes = formes[1:] + [source.randrange(1 << number)]
        told = last(begins(*case), *[page(*each) for each in pages],
                    *[set_page(one) for one in range(number) if now >> one & 1], plan(*formes))
        if all(forme in fit for forme in formes):
            cost, row = min(self.rows(case, pages, formes, now))
            self.assertEqual(told, [cost] + row, f"seed {seed}")
        else:
            self.assertEqual(told, [-4], f"seed {seed}")

    def test_four_pages(self):
        for seed in range(400):
            self.compare(seed, 4, 4)

    def test_three_pages_and_more_formes(self):
        for seed in range(1000, 1150):
            self.compare(seed, 3, 7)

    def test_five_pages(self):
        for seed in range(2000, 2100):
            self.compare(seed, 5, 3)

    def test_up_to_eight_pages_and_eight_formes(self):
        for seed in range(3000, 3040):
            self.compare(seed, 8, 8)


if __name__ == "__main__":
    unittest.main()
