"""Writes calls as the interface tells them, and takes what is answered apart again."""

from typecase.house import answers

GREATEST = 4294967295


def call(which, numbers):
    return [which, len(numbers)] + list(numbers) + [0]


def begins(*letters):
    return call(0, letters)


def page(*letters):
    return call(1, letters)


def buy(letter, n):
    return call(2, [letter, n])


def set_page(number):
    return call(3, [number])


def back(number):
    return call(4, [number])


def left():
    return call(5, [])


def fits(mask):
    return call(6, [mask])


def fullest():
    return call(7, [])


def turns():
    return call(8, [])


def bought(t):
    return call(9, [t])


def plan(*masks):
    return call(10, masks)


def line(*calls):
    return [number for one in calls for number in one]


def apart(told):
    """One list of answered numbers for each call."""
    parts = []
    at = 0
    while at < len(told):
        behind = at + 1 + told[at]
        if told[at] < 1 or behind > len(told):
            raise AssertionError(f"a wrong count at place {at} of {told}")
        parts.append(told[at + 1:behind])
        at = behind
    return parts


def ask(*calls):
    parts = apart(answers(line(*calls)))
    if len(parts) != len(calls):
        raise AssertionError(f"{len(calls)} calls, {len(parts)} answers")
    return parts


def last(*calls):
    return ask(*calls)[-1]
