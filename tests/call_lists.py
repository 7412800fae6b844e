"""Builds lists of calls, and checks what they are answered."""

import unittest

from orderlines.table import answers

LEAST = -9223372036854775808
MOST = 9223372036854775807

LAND, SEA, COAST = 0, 1, 2
ARMY, FLEET = 0, 1


def row(text):
    numbers = list(text.encode("ascii")) if isinstance(text, str) else list(text)
    return [len(numbers)] + numbers


def clear():
    return [0]


def province(kind, name, short_name, shores=""):
    return [1, kind] + row(name) + row(short_name) + row(shores)


def land(p, q):
    return [2, p, q]


def sea(p, s, q, t):
    return [3, p, s, q, t]


def man(power, fleet, p, s):
    return [4, power, fleet, p, s]


def gone(p):
    return [5, p]


def read(power, text):
    return [6, power] + row(text)


def printed(power):
    return [7, power]


def order(p):
    return [8, p]


def find(word):
    return [9] + row(word)


def orders():
    return [10]


def two_letters(number):
    return chr(97 + number // 20) + chr(97 + number % 20)


def nth_province(number, kind=COAST, shores=""):
    letters = two_letters(number)
    return province(kind, "N" + letters + "ame", "N" + letters, shores)


def provinces(how_many, kind=COAST, shores=""):
    return [nth_province(number, kind, shores) for number in range(how_many)]


def pairs(provinces_there, how_many):
    found = [(p, q) for p in range(provinces_there) for q in range(p)]
    return found[:how_many]


def joined(calls):
    return [number for call in calls for number in call]


def answers_apart(calls):
    """The answer to each call, as a list of its own."""
    rest = answers(joined(calls))
    apart = []
    while rest:
        apart.append(rest[1:1 + rest[0]])
        rest = rest[1 + rest[0]:]
    return apart


def text_of(answer):
    """The text in an answer to printed."""
    how_many, *numbers = answer
    assert how_many == len(numbers)
    return bytes(numbers).decode("ascii")


class CallsTest(unittest.TestCase):
    def check(self, *steps):
        """Each step is a call and what it is answered: one number, or a list of them."""
        self.assertLessEqual(len(steps), 400)
        handed_in = joined([call for call, _ in steps])
        self.assertLessEqual(len(handed_in), 16000)
        as_it_was = list(handed_in)
        wanted = [[answer] if isinstance(answer, int) else list(answer) for _, answer in steps]
        self.assertEqual(answers_apart([handed_in]), wanted)
        self.assertEqual(handed_in, as_it_was)
        self.assertEqual(answers(handed_in), joined([[len(answer)] + answer for answer in wanted]))


def made(calls):
    """Steps of province calls, all of which are to go well."""
    return [(call, number) for number, call in enumerate(calls)]


def done(calls):
    """Steps of other calls, all of which are to go well."""
    return [(call, 0) for call in calls]


def text_answer(text):
    return row(text)


# A map for orders. Kiel begins Kielce, and Holland's short name begins Norway and Northsea.
MUN, KIE, BAL, SPA, BUL, GUL, BER, BGD, KLC, NTH, NWY, NOR = range(12)
WORLD_PROVINCES = [
    province(LAND, "Munich", "Mun"), province(COAST, "Kiel", "Kie"), province(SEA, "Baltic", "Bal"),
    province(COAST, "Spain", "Spa", "north south"), province(COAST, "Bulgaria", "Bul", "n e s w"),
    province(SEA, "Gulf", "Gul"), province(COAST, "Berlin", "Ber"), province(LAND, "Burgundy", "Bgd"),
    province(LAND, "Kielce", "Klc"), province(SEA, "Northsea", "Nth"), province(COAST, "Norway", "Nwy"),
    province(COAST, "Holland", "Nor"),
]
# To Spain: from the Gulf one shore, from the Northsea both. To Bulgaria: from the Gulf two shores, from the Northsea
# the third, from Spain's north the last, from its south two, from the Baltic none.
WORLD_LINKS = [
    land(MUN, KIE), land(BER, MUN), land(MUN, BGD), land(KIE, BER), land(BGD, SPA), land(NOR, KIE), land(BER, KLC),
    sea(KIE, 0, BAL, 0), sea(BAL, 0, BER, 0), sea(KIE, 0, BER, 0), sea(NTH, 0, KIE, 0), sea(BAL, 0, NTH, 0),
    sea(NTH, 0, NWY, 0), sea(NOR, 0, NTH, 0), sea(GUL, 0, SPA, 1), sea(SPA, 0, NTH, 0), sea(NTH, 0, SPA, 1),
    sea(GUL, 0, BUL, 1), sea(BUL, 3, GUL, 0), sea(NTH, 0, BUL, 2), sea(SPA, 0, BUL, 3), sea(BUL, 0, SPA, 1),
    sea(SPA, 1, BUL, 1),
]
WORLD = made(WORLD_PROVINCES) + done(WORLD_LINKS)
