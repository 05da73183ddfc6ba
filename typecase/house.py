"""A house, the calls on it, and the answers to a line of such calls."""

from typecase.reckoning import (
    can_stand_by_mask, each_stands_alone, first_cheapest_row, first_fewest_row, first_lacking, fullest_masks,
    lacking_of_each, least_plan, left_of_each, wanted_together,
)

MOST_LETTERS = 32
MOST_OF_A_LETTER = 65535
MOST_PAGES = 8
MOST_FORMES = 8

WRONG_LETTERS = -1
NO_SUCH = -2
ALREADY_SO = -3
CANNOT_STAND = -4
TOO_MANY = -5


class House:
    # A case has at least one letter, so an empty list tells that there's none yet.
    def __init__(self):
        self.case = []
        self.pages = []
        self.standing = 0
        self.set_so_far = 0

    def stands(self, number):
        return (self.standing >> number) & 1 == 1

    def has_pages(self, mask):
        return mask >> len(self.pages) == 0

    # Reckoned anew each time, so that the case and what stands can't drift apart.
    def now_left(self):
        return left_of_each(self.case, self.pages, self.standing)


def begins(house, letters):
    if not 1 <= len(letters) <= MOST_LETTERS or max(letters) > MOST_OF_A_LETTER:
        return [WRONG_LETTERS]
    house.case = list(letters)
    house.pages = []
    house.standing = 0
    house.set_so_far = 0
    return [0]


def page(house, letters):
    if len(house.case) == 0 or len(letters) != len(house.case) or max(letters) > MOST_OF_A_LETTER:
        return [WRONG_LETTERS]
    if len(house.pages) == MOST_PAGES:
        return [TOO_MANY]
    house.pages.append(list(letters))
    return [len(house.pages) - 1]


def buy(house, numbers):
    letter = numbers[0]
    if letter >= len(house.case):
        return [NO_SUCH]
    then = house.case[letter] + numbers[1]
    if then > MOST_OF_A_LETTER:
        return [TOO_MANY]
    house.case[letter] = then
    return [then]


def set_page(house, numbers):
    number = numbers[0]
    if number >= len(house.pages):
        return [NO_SUCH]
    if house.stands(number):
        return [ALREADY_SO]
    wants = house.pages[number]
    lacking = first_lacking(house.now_left(), wants)
    if lacking is not None:
        return [CANNOT_STAND, lacking]
    house.standing = house.standing | (1 << number)
    house.set_so_far = house.set_so_far + sum(wants)
    return [house.set_so_far]


def back(house, numbers):
    number = numbers[0]
    if number >= len(house.pages):
        return [NO_SUCH]
    if not house.stands(number):
        return [ALREADY_SO]
    house.standing = house.standing ^ (1 << number)
    return [house.standing]


def left(house, numbers):
    each = house.now_left()
    return [sum(each)] + each


def fits(house, numbers):
    mask = numbers[0]
    if not house.has_pages(mask):
        return [NO_SUCH]
    lacking = lacking_of_each(house.case, wanted_together(house.case, house.pages, mask))
    return [1 if sum(lacking) == 0 else 0] + lacking


def fullest(house, numbers):
    masks = fullest_masks(can_stand_by_mask(house.case, house.pages))
    return [len(masks)] + masks


def turns(house, numbers):
    can_stand = can_stand_by_mask(house.case, house.pages)
    if not each_stands_alone(can_stand):
        return [CANNOT_STAND]
    row = first_fewest_row(can_stand)
    return [len(row)] + row


def bought(house, numbers):
    most_parts = numbers[0]
    if most_parts == 0 and len(house.pages) > 0:
        return [CANNOT_STAND]
    cheapest = first_cheapest_row(house.case, house.pages, most_parts)
    return [cheapest[0]] + cheapest[1] + cheapest[2]


def plan(house, formes):
    if len(formes) > MOST_FORMES or not all([house.has_pages(forme) for forme in formes]):
        return [NO_SUCH]
    can_stand = can_stand_by_mask(house.case, house.pages)
    if not all([can_stand[forme] for forme in formes]):
        return [CANNOT_STAND]
    least = least_plan(house.case, house.pages, house.standing, formes)
    return [least[0]] + least[1]


# A call's number is its place here.
CALLS = (begins, page, buy, set_page, back, left, fits, fullest, turns, bought, plan)


def split_calls(calls):
    parted = []
    at = 0
    while at < len(calls):
        behind = at + 2 + calls[at + 1]
        parted.append((calls[at], calls[at + 2:behind]))
        # No call has a list: behind its numbers stands the 0 that says so, and no more.
        at = behind + 1
    return parted


def answers(calls):
    house = House()
    told = []
    for call, numbers in split_calls(calls):
        answer = CALLS[call](house, numbers)
        told.append(len(answer))
        told.extend(answer)
    return told
