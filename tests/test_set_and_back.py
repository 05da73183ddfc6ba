"""Points 3 and 4: set, back and left; and that the case and what stands are all there is."""

import random
import unittest

from lines import GREATEST, ask, back, begins, buy, last, left, page, set_page


class SetPage(unittest.TestCase):
    def test_it_stands_and_its_letters_are_out_of_the_case(self):
        told = ask(begins(9, 9), page(1, 2), page(3, 4), set_page(1), left(), set_page(0), left())
        self.assertEqual(told[3:], [[7], [11, 6, 5], [10], [8, 5, 3]])

    def test_what_is_set_again_counts_again(self):
        told = ask(begins(9, 9), page(1, 2), set_page(0), back(0), set_page(0), back(0), set_page(0))
        self.assertEqual(told[2:], [[3], [0], [6], [0], [9]])

    def test_all_that_there_is(self):
        told = ask(begins(3, 4), page(3, 4), set_page(0), left())
        self.assertEqual(told[2:], [[7], [0, 0, 0]])
        told = ask(begins(3, 4), page(1, 4), page(2, 0), set_page(0), set_page(1), left())
        self.assertEqual(told[3:], [[5], [7], [0, 0, 0]])

    def test_a_page_that_wants_nothing(self):
        told = ask(begins(1, 0), page(0, 0), page(1, 0), set_page(1), set_page(0), set_page(0),
                   left(), back(1), back(0), back(0))
        self.assertEqual(told[3:], [[1], [1], [-3], [0, 0, 0], [1], [0], [-3]])
        self.assertEqual(last(begins(0), page(0), set_page(0)), [0])

    def test_eight_pages_stand(self):
        told = ask(begins(36), *[page(k) for k in range(1, 9)], *[set_page(k) for k in range(8)], left(), back(0))
        self.assertEqual(told[9:], [[1], [3], [6], [10], [15], [21], [28], [36], [0, 0], [254]])

    def test_no_such_page(self):
        told = ask(begins(9), page(1), set_page(1), set_page(8), set_page(32), set_page(GREATEST), set_page(0))
        self.assertEqual(told[2:], [[-2], [-2], [-2], [-2], [1]])
        self.assertEqual(last(begins(9), set_page(0)), [-2])

    def test_no_case_yet(self):
        self.assertEqual(ask(set_page(0), set_page(GREATEST)), [[-2], [-2]])

    def test_it_stands_already(self):
        told = ask(begins(9), page(1), page(2), set_page(1), set_page(1), set_page(0), set_page(0))
        self.assertEqual(told[3:], [[2], [-3], [3], [-3]])

    def test_standing_already_counts_before_too_few_letters(self):
        self.assertEqual(last(begins(5), page(5), set_page(0), set_page(0)), [-3])

    def test_the_first_letter_of_which_there_are_not_enough_left(self):
        self.assertEqual(last(begins(0, 5, 5), page(1, 0, 0), set_page(0)), [-4, 0])
        self.assertEqual(last(begins(5, 1, 1), page(5, 2, 2), set_page(0)), [-4, 1])
        self.assertEqual(last(begins(5, 5, 1), page(5, 5, 65535), set_page(0)), [-4, 2])
        self.assertEqual(last(begins(*[1] * 32), page(*[1] * 31, 2), set_page(0)), [-4, 31])

    def test_what_stands_is_not_left(self):
        told = ask(begins(5, 5), page(2, 3), page(3, 3), page(4, 2), set_page(0), set_page(1), set_page(2))
        self.assertEqual(told[4:], [[5], [-4, 1], [-4, 0]])

    def test_what_was_put_back_is_left(self):
        told = ask(begins(5), page(3), page(3), set_page(0), set_page(1), back(0), set_page(1), set_page(0))
        self.assertEqual(told[3:], [[3], [-4, 0], [0], [6], [-4, 0]])

    def test_a_refusal_changes_nothing(self):
        told = ask(begins(5, 5), page(2, 1), page(4, 0), set_page(0),
                   set_page(1), set_page(0), set_page(2), left(), back(1), buy(0, 1), set_page(1), back(0))
        self.assertEqual(told[4:], [[-4, 0], [-3], [-2], [7, 3, 4], [-3], [6], [7], [2]])


class Back(unittest.TestCase):
    def test_the_mask_of_what_stands_then(self):
        told = ask(begins(9), page(1), page(1), page(1), set_page(0), set_page(1), set_page(2),
                   back(1), back(2), back(0))
        self.assertEqual(told[7:], [[5], [1], [0]])

    def test_the_eighth_page_counts_128(self):
        told = ask(begins(9), *[page(1)] * 8, set_page(7), set_page(3), back(3), back(7))
        self.assertEqual(told[11:], [[128], [0]])

    def test_its_letters_are_in_the_case_again(self):
        told = ask(begins(9, 9), page(1, 2), page(3, 4), set_page(0), set_page(1), back(0), left(), back(1), left())
        self.assertEqual(told[5:], [[2], [11, 6, 5], [0], [18, 9, 9]])

    def test_it_does_not_stand(self):
        told = ask(begins(9), page(1), page(1), back(0), set_page(0), back(1), back(0), back(0))
        self.assertEqual(told[3:], [[-3], [1], [-3], [0], [-3]])

    def test_no_such_page(self):
        told = ask(begins(9), page(1), set_page(0), back(1), back(8), back(32), back(GREATEST), back(0))
        self.assertEqual(told[3:], [[-2], [-2], [-2], [-2], [0]])

    def test_no_case_yet(self):
        self.assertEqual(ask(back(0), back(GREATEST)), [[-2], [-2]])

    def test_a_refusal_changes_nothing(self):
        told = ask(begins(9), page(2), page(3), set_page(0), back(1), back(2), left(), set_page(1), back(0))
        self.assertEqual(told[4:], [[-3], [-2], [7, 7], [5], [2]])


class Left(unittest.TestCase):
    def test_no_case_yet(self):
        self.assertEqual(ask(left(), left()), [[0], [0]])

    def test_all_of_it_if_nothing_stands(self):
        self.assertEqual(last(begins(1, 0, 65535), page(1, 0, 5), left()), [65536, 1, 0, 65535])

    def test_less_what_stands(self):
        self.assertEqual(last(begins(9, 8, 7), page(1, 2, 3), page(4, 0, 4), page(1, 1, 1),
                              set_page(0), set_page(1), left()), [10, 4, 6, 0])

    def test_it_changes_nothing(self):
        told = ask(begins(9), page(4), set_page(0), left(), left(), back(0), left())
        self.assertEqual(told[3:], [[5, 5], [5, 5], [0], [9, 9]])


class AllThereIs(unittest.TestCase):
    """Lines drawn from fixed seeds, against letters that are moved one page at a time."""

    def draw(self, source):
        letters = source.randint(1, 4)
        some = lambda most: [source.randint(0, most) for k in range(letters)]
        calls = [begins(*some(12))]
        while len(calls) < 60:
            calls.append(source.choice([
                page(*some(5)), page(*some(2)), buy(source.randint(0, letters), source.randint(0, 3)),
                set_page(source.randint(0, 8)), set_page(source.randint(0, 8)), set_page(source.randint(0, 8)),
                back(source.randint(0, 8)), back(source.randint(0, 8)), left(),
            ]))
            if source.random() < 0.02:
                calls.append(begins(*some(12)))
        return calls[:60]

    def follow(self, calls):
        rest, pages, stand, done = [], [], set(), 0
        for which, count, *numbers in calls:
            numbers.pop()
            if which == 0:
                rest, pages, stand, done = numbers, [], set(), 0
                yield [0]
            elif which == 1 and len(pages) == 8:
                yield [-5]
            elif which == 1:
                pages.append(numbers)
                yield [len(pages) - 1]
            elif which == 2 and numbers[0] == len(rest):
                yield [-2]
            elif which == 2:
                rest[numbers[0]] += numbers[1]
                yield [rest[numbers[0]] + sum(pages[one][numbers[0]] for one in stand)]
            elif which == 5:
                yield [sum(rest)] + rest
            elif numbers[0] >= len(pages):
                yield [-2]
            elif (which == 3) == (numbers[0] in stand):
                yield [-3]
            elif which == 3:
                over = [there - want for there, want in zip(rest, pages[numbers[0]])]
                short = [letter for letter, count in enumerate(over) if count < 0]
                if short:
                    yield [-4, short[0]]
                else:
                    rest = over
                    stand.add(numbers[0])
                    done += sum(pages[numbers[0]])
                    yield [done]
            else:
                stand.remove(numbers[0])
                rest = [there + want for there, want in zip(rest, pages[numbers[0]])]
                yield [sum(2 ** one for one in stand)]

    def test_lines_of_sixty_calls(self):
        for seed in range(400):
            calls = self.draw(random.Random(seed))
            self.assertEqual(ask(*calls), list(self.follow(calls)), f"seed {seed}")


if __name__ == "__main__":
    unittest.main()
