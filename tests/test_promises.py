"""The numbered promises, each over many orders at once."""

import itertools
import random
import unittest

from call_lists import (
    ARMY, BAL, BER, BGD, BUL, FLEET, GUL, KIE, MUN, NOR, NTH, NWY, SPA, WORLD, CallsTest, answers_apart, man, orders,
    printed, read, text_of,
)

SETUP = [call for call, _ in WORLD]

# Everyone's units; power 1 has the first eight, every kind of order among them in turn.
UNITS = [
    (1, ARMY, MUN, 0), (1, ARMY, KIE, 0), (1, FLEET, BAL, 0), (1, FLEET, SPA, 1), (1, ARMY, BUL, 0), (1, FLEET, NTH, 0),
    (1, FLEET, BER, 0), (1, FLEET, NWY, 0), (3, FLEET, GUL, 0), (5, ARMY, NOR, 0), (5, ARMY, BGD, 0),
]
PLACED = SETUP + [man(*unit) for unit in UNITS]

TEXTS = (
    "", "Mun holds\nSpa/south holds",
    "Mun to Bgd\nKie to Nwy by water\nBal to Ber\nSpa to Gul\nBul to Spa\nNth to Bul\nBer to Kie by water\nNwy to Nth",
    "Mun supports Kie\nKie supports Bgd to Mun\nBal carries Kie to Ber\nSpa supports Gul to Bul/e\n"
    "Bul supports Spa/north\nNth carries Nor to Nwy\nBer supports Bal\nNwy supports Nth to Spa/south",
    "Mun to Mun\nKie carries Mun to Mun\nBal to Bul\nSpa to Spa/north\nBul to Bul by water\nNth to Spa/north by water\n"
    "Ber supports Ber\nNwy supports Nwy to Nwy",
    "Nth to Spa/south\nSpa to Bul/n\nBal to Bul/w\nBer to Bul/s by water\nNwy to Mun",
)


def state_after(power, *texts):
    """What read, printed and orders answer for the last of the texts."""
    return answers_apart(PLACED + [read(power, text) for text in texts] + [printed(power), orders()])[-3:]


class PrintedReadsBack(CallsTest):
    def reads_back(self, power, text, how_many_units):
        answer, as_printed, as_told = state_after(power, text)
        self.assertEqual(answer[0], 0, text)
        printed_text = text_of(as_printed)
        # Over what is there already, over other orders, and on new units that hold.
        for before in ([text], [text, ""], []):
            again = state_after(power, *before, printed_text)
            self.assertEqual(again, [[0, how_many_units], as_printed, as_told], text)

    def test_every_kind_of_order(self):
        for text in TEXTS:
            self.reads_back(1, text, 8)

    def test_other_powers(self):
        self.reads_back(3, "Gul to Spa", 1)
        self.reads_back(3, "Gul to Bul/w", 1)
        self.reads_back(5, "Nor to Nwy by water\nBgd supports Mun", 2)
        self.reads_back(0, "", 0)

    def test_every_line_that_is_right(self):
        """Each form with each of the places, as far as the line isn't wrong."""
        places = ["Mun", "Kie", "Bal", "Spa", "Spa/north", "Spa/south", "Bul", "Bul/e", "Bul/s", "Nor", "Nwy"]
        units = ["Mun", "Bal", "Spa", "Bul", "Nth"]
        forms = [
            "{0} to {1}", "{0} to {1} by water", "{0} supports {1}", "{0} supports {1} to {2}",
            "{0} carries {1} to {2}",
        ]
        right = 0
        for form, unit, place in itertools.product(forms, units, places):
            text = form.format(unit, place, places[(places.index(place) + 3) % len(places)])
            if state_after(1, text)[0][0] == 0:
                self.reads_back(1, text, 8)
                right += 1
        # 4 places are wrong for each of the two armies, and one for each of two fleets; each with and without water.
        self.assertEqual(right, len(forms) * len(units) * len(places) - 2 * (2 * 4 + 2))

    def test_orders_by_lot(self):
        lots = random.Random(20)
        places = ["Mun", "Kie", "Bal", "Spa", "Spa/north", "Bul", "Bul/e", "Gul", "Ber", "Bgd", "Nth", "Nwy", "Nor"]
        forms = ["holds", "to {0}", "to {0} by water", "supports {0}", "supports {0} to {1}", "carries {0} to {1}"]
        for _ in range(60):
            lines = []
            for unit in ("Mun", "Kie", "Bal", "Spa", "Bul", "Nth", "Ber", "Nwy"):
                line = unit + " " + lots.choice(forms).format(lots.choice(places), lots.choice(places))
                if state_after(1, line)[0][0] == 0:
                    lines.append(line)
            self.assertGreater(len(lines), 2)
            lots.shuffle(lines)
            self.reads_back(1, "\n".join(lines), 8)


class AnyOrderAndAnyWord(CallsTest):
    def test_lines_in_any_order(self):
        for text in TEXTS:
            wanted = state_after(1, text)
            lines = text.split("\n")
            lots = random.Random(7)
            for _ in range(20):
                lots.shuffle(lines)
                self.assertEqual(state_after(1, "\n".join(lines)), wanted)

    def test_all_orders_of_four_lines(self):
        lines = ["Mun supports Kie to Ber", "Kie to Ber", "# a remark", "Nth to Spa/north"]
        wanted = state_after(1, "\n".join(lines))
        self.assertEqual(wanted[0], [0, 3])
        for other in itertools.permutations(lines):
            self.assertEqual(state_after(1, "\n".join(other)), wanted)

    def test_words_for_the_same_place(self):
        words = {
            "Mun": ("Mun", "Munich", "M", "Mu", "Munic"), "Kie": ("Kie", "Kiel"), "Spa": ("Spa", "Spain", "S", "Sp"),
            "Nor": ("Nor", "Holland", "H"), "Nwy": ("Nwy", "Norway", "Norw"), "Bal": ("Bal", "Baltic", "Ba"),
        }
        for form, one, other in (
            ("{0} to {1}", "Mun", "Kie"), ("{0} supports {1}", "Mun", "Spa"), ("{0} supports {1} to Ber", "Mun", "Nor"),
            ("{0} supports Ber to {1}", "Mun", "Nwy"), ("{0} carries {1} to Nor", "Bal", "Kie"),
            ("{0} carries Kie to {1}", "Bal", "Nor"), ("{0}/south to {1}", "Spa", "Nwy"),
            ("Nth to {0}/north", "Spa", "Spa"), ("army {0} supports fleet {1}/north", "Mun", "Spa"),
            ("{0} to {1} by water", "Kie", "Nwy"),
        ):
            wanted = state_after(1, form.format(one, other))
            self.assertEqual(wanted[0], [0, 1])
            for first, second in itertools.product(words[one], words[other]):
                self.assertEqual(state_after(1, form.format(first, second)), wanted)

    def test_words_that_mean_another_place(self):
        self.assertNotEqual(state_after(1, "Mun to Kiel"), state_after(1, "Mun to Kielc"))
        self.assertNotEqual(state_after(1, "Mun to Nor"), state_after(1, "Mun to Nort"))

    def test_unit_words_and_the_only_shore(self):
        for lines in (
            ("Mun holds", "army Mun holds"),
            ("Spa holds", "fleet Spa holds", "Spa/south holds", "fleet Spa/south holds"),
            ("Nth to Bul", "Nth to Bul/s"), ("Spa supports Gul", "Spa supports fleet Gul", "Spa supports army Gul"),
            ("Nth carries Nor to Spa", "Nth carries army Nor to Spa/north", "Nth carries fleet Nor to Spa/south"),
        ):
            wanted = state_after(1, lines[0])
            self.assertEqual(wanted[0], [0, 1])
            for line in lines[1:]:
                self.assertEqual(state_after(1, line), wanted)


class WhyHangsOnLittle(CallsTest):
    def test_units_set_in_another_order(self):
        for text in TEXTS:
            calls = SETUP + [man(*unit) for unit in reversed(UNITS)] + [read(1, text), orders()]
            self.assertEqual(answers_apart(calls)[-1], state_after(1, text)[-1])

    def test_earlier_orders(self):
        for before, text in itertools.product(TEXTS, TEXTS):
            self.assertEqual(state_after(1, before, text), state_after(1, text))

    def test_orders_of_other_powers(self):
        for text in TEXTS:
            calls = PLACED + [read(3, "Gul to Spa"), read(5, "Nor to Kie\nBgd to Mun"), read(1, text), orders()]
            mixed = answers_apart(calls)[-1]
            alone = state_after(1, text)[-1]
            own = (MUN, KIE, BAL, SPA, BUL, NTH, BER, NWY)
            for place in range(1, len(alone), 6):
                if alone[place] in own:
                    self.assertEqual(mixed[place:place + 6], alone[place:place + 6])


if __name__ == "__main__":
    unittest.main()
