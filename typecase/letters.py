"""Counting over letters: a list has, at each letter's place, how many of it there are."""


def wanted_together(case, pages, mask):
    wanted = [0] * len(case)
    for number, wants in enumerate(pages):
        if (mask >> number) & 1:
            wanted = [sofar + more for sofar, more in zip(wanted, wants)]
    return wanted


def left_of_each(case, pages, standing):
    taken = wanted_together(case, pages, standing)
    return [there - gone for there, gone in zip(case, taken)]


def first_lacking(left, wants):
    for letter in range(len(left)):
        if wants[letter] > left[letter]:
            return letter
    return None
