"""Builds lists of calls, and checks what they are answered."""

import unittest

from orderlines.table import answers

LEAST = -9223372036854775808
MOST = 9223372036854775807

LAND, SEA, COAST = 0, 1, 2
ARMY, FLEET = 0, 1


def row(text):
    numbers = list(text.encode("ascii")) if isinstance(text, str) else list(text)
    return [len(numbers)] + numbers


def clear():
    return [0]


def province(kind, name, short_name, shores=""):
    return [1, kind] + row(name) + row(short_name) + row(shores)


def land(p, q):
    return [2, p, q]


def sea(p, s, q, t):
    return [3, p, s, q, t]


def man(power, fleet, p, s):
    return [4, power, fleet, p, s]


def gone(p):
    return [5, p]


def two_letters(number):
    return chr(97 + number // 20) + chr(97 + number % 20)


def nth_province(number, kind=COAST, shores=""):
    letters = two_letters(number)
    return province(kind, "N" + letters + "ame", "N" + letters, shores)


def provinces(how_many, kind=COAST, shores=""):
    return [nth_province(number, kind, shores) for number in range(how_many)]


def pairs(provinces_there, how_many):
    found = [(p, q) for p in range(provinces_there) for q in range(p)]
    return found[:how_many]


def joined(calls):
    return [number for call in calls for number in call]


class CallsTest(unittest.TestCase):
    def check(self, *steps):
        """Each step is a call and the one number that it is answered."""
        self.assertLessEqual(len(steps), 400)
        handed_in = joined([call for call, _ in steps])
        self.assertLessEqual(len(handed_in), 16000)
        as_it_was = list(handed_in)
        wanted = joined([[1, number] for _, number in steps])
        self.assertEqual(answers(handed_in), wanted)
        self.assertEqual(handed_in, as_it_was)
        self.assertEqual(answers(handed_in), wanted)


def made(calls):
    """Steps of province calls, all of which are to go well."""
    return [(call, number) for number, call in enumerate(calls)]


def done(calls):
    """Steps of other calls, all of which are to go well."""
    return [(call, 0) for call in calls]
