"""The call read: a text's lines, which of them are wrong, and what becomes of the units' orders."""

import unittest

from call_lists import (
    ARMY, BAL, BER, BGD, BUL, FLEET, KIE, KLC, LEAST, MOST, MUN, NOR, NTH, NWY, WORLD, CallsTest, clear, done, gone,
    man, nth_province, order, orders, printed, read, sea, text_answer, two_letters,
)

# Of power 2: armies in Munich, Kiel and Berlin, a fleet in the Baltic. Of power 4: a fleet in the Northsea.
PLACED = WORLD + done([
    man(2, ARMY, MUN, 0), man(2, ARMY, KIE, 0), man(2, FLEET, BAL, 0), man(2, ARMY, BER, 0), man(4, FLEET, NTH, 0),
])
HOLDING = [0, 0, 0, 0, 0]


def all_orders(**told):
    """The answer to orders where the units told have these four numbers and why, and the others hold."""
    units = {"mun": MUN, "kie": KIE, "bal": BAL, "ber": BER, "nth": NTH}
    return [5] + [number for name, p in units.items() for number in [p] + told.get(name, HOLDING)]


class Answers(CallsTest):
    def test_orders_are_counted(self):
        self.check(
            *PLACED, (read(2, "Mun to Bgd"), [0, 1]), (orders(), all_orders(mun=[1, BGD, 0, 0, 0])),
            (read(2, "Mun to Bgd\nKie holds\nBal carries Kie to Ber\nBer supports Kie"), [0, 4]),
            (orders(), all_orders(mun=[1, BGD, 0, 0, 0], bal=[4, KIE, BER, 0, 0], ber=[2, KIE, 0, 0, 0])),
        )

    def test_what_says_nothing(self):
        for text in ("", "\n", "\n\n\n", " ", "     ", "  \n   ", "#", "# Mun jumps", "#Mun", "   # Mun", "##\n#\n\n "):
            self.check(*PLACED, (read(2, text), [0, 0]), (orders(), all_orders()))

    def test_a_hash_elsewhere(self):
        self.check(
            *PLACED, (read(2, "Mun#"), [1, 1, 1, 2]), (read(2, "Mun # holds"), [1, 1, 1, 1]),
            (read(2, "army #"), [1, 1, 1, 2]), (read(2, "Mun holds # why"), [1, 1, 1, 1]),
        )

    def test_only_lines_that_say_something_are_counted(self):
        self.check(
            *PLACED, (read(2, "\n# first\nMun to Bgd\n\n   \n  # second\n Kie holds \n"), [0, 2]),
            (orders(), all_orders(mun=[1, BGD, 0, 0, 0])), (read(2, "Mun holds\n"), [0, 1]),
            (read(2, "\nMun holds"), [0, 1]), (read(2, "Mun holds\n\n"), [0, 1]),
        )

    def test_a_line_ends_at_byte_10_alone(self):
        self.check(
            *PLACED, (read(2, "Mun\nholds"), [1, 2, 1, 1, 2, 2]), (read(2, "Mun holds\rKie holds"), [1, 1, 1, 1]),
            (read(2, "Mun holds\r\nKie holds"), [1, 1, 1, 1]), (read(2, "Mun holds\tKie holds"), [1, 1, 1, 1]),
            (read(2, "# Mun\nKie holds"), [0, 1]),
        )

    def test_wrong_lines_are_counted_from_1_with_those_that_say_nothing(self):
        self.check(
            *PLACED, (read(2, "Xyz holds"), [1, 1, 1, 2]), (read(2, "\nXyz holds\n"), [1, 1, 2, 2]),
            (read(2, "# one\n\nMun holds\n   \nB holds\nKie\n\nNth holds"), [1, 3, 5, 3, 6, 1, 8, 5]),
            (orders(), all_orders()),
        )

    def test_bytes_in_lines_that_say_nothing(self):
        self.check(
            *PLACED, (read(2, "Mun holds\n# \x7f\nKie holds"), [1, 1, 2, 1]), (read(2, "\n\x1f\n"), [1, 1, 2, 1]),
            (read(2, list(b"#") + [255]), [1, 1, 1, 1]), (read(2, "  \t"), [1, 1, 1, 1]), (read(2, "# ~"), [0, 0]),
            (read(2, [35, 10, 0, 10, 35]), [1, 1, 2, 1]),
        )

    def test_20_and_21_wrong_lines(self):
        for how_many in (19, 20, 21, 40, 300):
            told = min(how_many, 20)
            wrong = [number for line in range(1, told + 1) for number in (line, 2)]
            self.check(*PLACED, (read(2, "X\n" * how_many), [1, told] + wrong), (orders(), all_orders()))

    def test_the_first_20_are_told(self):
        text = "Mun holds\n" + "X\n# remark\n" * 19 + "\nB\nMun\nKie to Spa/x"
        wrong = [number for line in range(2, 40, 2) for number in (line, 2)] + [41, 3]
        self.check(*PLACED, (read(2, text), [1, 20] + wrong), (orders(), all_orders()))


class Range(CallsTest):
    def test_powers(self):
        for power in (-1, 7, 8, LEAST, MOST):
            self.check(
                *PLACED, (read(2, "Mun to Bgd"), [0, 1]), (read(power, ""), -1), (read(power, "Mun holds"), -1),
                (read(power, "Xyz"), -1), (read(power, [256]), -1), (orders(), all_orders(mun=[1, BGD, 0, 0, 0])),
            )

    def test_first_and_last_power(self):
        for power in (0, 6):
            self.check(
                *WORLD, (man(power, ARMY, MUN, 0), 0), (read(power, "Mun to Bgd"), [0, 1]),
                (order(MUN), [power, 0, 0, 1, BGD, 0, 0, 0]), (read(6 - power, "Mun to Kie"), [1, 1, 1, 5]),
                (read(6 - power, ""), [0, 0]), (order(MUN), [power, 0, 0, 1, BGD, 0, 0, 0]),
            )

    def test_texts_of_2000_and_more(self):
        line = "Mun to Bgd\n"
        fitting = line + "#" * (2000 - len(line))
        blanks = line + " " * (2000 - len(line))
        self.check(
            *PLACED, (read(2, fitting), [0, 1]), (orders(), all_orders(mun=[1, BGD, 0, 0, 0])), (read(2, ""), [0, 0]),
            (read(2, fitting + "#"), -1), (orders(), all_orders()), (read(2, blanks), [0, 1]),
        )
        self.check(*PLACED, (read(2, blanks), [0, 1]), (read(2, blanks + " "), -1), (read(2, "\n" * 2001), -1))
        self.check(*PLACED, (read(2, fitting), [0, 1]), (read(2, " " * 2100), -1), (read(2, "X" * 2000), [1, 1, 1, 2]))
        self.check(*PLACED, (read(2, "\n" * 2000), [0, 0]), (read(2, "\n" * 1999 + "X"), [1, 1, 2000, 2]))

    def test_numbers_that_are_no_bytes(self):
        for number in (-1, 256, 300, LEAST, MOST):
            for text in ([number], list(b"Mun holds\n") + [number], [number] + list(b"\nMun holds"), [35, number]):
                self.check(
                    *PLACED, (read(2, "Mun to Bgd"), [0, 1]), (read(2, text), -1),
                    (orders(), all_orders(mun=[1, BGD, 0, 0, 0])),
                )

    def test_first_and_last_byte(self):
        for byte in (0, 255):
            self.check(*PLACED, (read(2, [byte]), [1, 1, 1, 1]), (read(2, list(b"Mun holds") + [byte]), [1, 1, 1, 1]))

    def test_on_nothing(self):
        self.check(
            (read(0, ""), [0, 0]), (read(6, "Mun holds"), [1, 1, 1, 2]), (read(7, ""), -1), (read(0, [256]), -1),
            (read(0, "#\n\n"), [0, 0]), (orders(), [0]),
        )


class Changes(CallsTest):
    def test_units_not_told_hold(self):
        self.check(
            *PLACED, (read(2, "Mun to Bgd\nKie supports Mun\nBal to Ber"), [0, 3]),
            (orders(), all_orders(mun=[1, BGD, 0, 0, 0], kie=[2, MUN, 0, 0, 0], bal=[1, BER, 0, 0, 0])),
            (read(2, "Ber to Klc"), [0, 1]), (orders(), all_orders(ber=[1, KLC, 0, 0, 0])),
            (read(2, ""), [0, 0]), (orders(), all_orders()),
        )

    def test_another_power_keeps_its_orders(self):
        self.check(
            *PLACED, (read(2, "Mun to Bgd"), [0, 1]), (read(4, "Nth to Nwy"), [0, 1]),
            (orders(), all_orders(mun=[1, BGD, 0, 0, 0], nth=[1, NWY, 0, 0, 0])),
            (read(2, "Kie to Nor"), [0, 1]), (orders(), all_orders(kie=[1, NOR, 0, 0, 0], nth=[1, NWY, 0, 0, 0])),
            (read(3, ""), [0, 0]), (orders(), all_orders(kie=[1, NOR, 0, 0, 0], nth=[1, NWY, 0, 0, 0])),
            (read(4, ""), [0, 0]), (orders(), all_orders(kie=[1, NOR, 0, 0, 0])),
        )

    def test_a_wrong_line_beside_good_ones(self):
        before = all_orders(mun=[1, BGD, 0, 0, 0], bal=[2, KIE, 0, 0, 0])
        for text, wrong in (
            ("Mun to Kie\nKie to Ber\nXyz", [3, 2]), ("Xyz\nMun to Kie", [1, 2]), ("Mun holds\n\x7f", [2, 1]),
            ("Bal holds\nBer\nKie to Nor", [2, 1]), ("Mun to Kie\nMun to Ber", [2, 7]),
            ("Mun holds\nNth to Nwy", [2, 5]),
        ):
            self.check(
                *PLACED, (read(2, "Mun to Bgd\nBal supports Kie"), [0, 2]), (read(2, text), [1, 1] + wrong),
                (orders(), before), (printed(2), text_answer(
                    "army Mun to Bgd\narmy Kie holds\nfleet Bal supports Kie\narmy Ber holds\n")),
            )

    def test_a_later_read_is_not_held_against_an_earlier_one(self):
        self.check(
            *PLACED, (read(2, "Mun to Bgd"), [0, 1]), (read(2, "Mun to Kie"), [0, 1]),
            (orders(), all_orders(mun=[1, KIE, 0, 0, 0])), (read(2, "Mun to Ber\nX"), [1, 1, 2, 2]),
            (read(2, "Mun to Ber"), [0, 1]), (orders(), all_orders(mun=[1, BER, 0, 0, 0])),
        )

    def test_new_units_hold(self):
        self.check(
            *PLACED, (read(2, "Mun to Bgd\nKie to Ber"), [0, 2]), (gone(MUN), 0), (man(2, ARMY, MUN, 0), 0),
            (orders(), all_orders(kie=[1, BER, 0, 0, 0])), (gone(KIE), 0), (man(4, FLEET, KIE, 0), 0),
            (orders(), all_orders()), (read(2, "Kie holds"), [1, 1, 1, 5]), (read(4, "fleet Kie to Ber"), [0, 1]),
            (orders(), all_orders(kie=[1, BER, 0, 0, 0])),
        )

    def test_units_that_are_gone_are_not_read(self):
        self.check(
            *PLACED, (gone(MUN), 0), (read(2, "Mun holds"), [1, 1, 1, 5]), (man(3, ARMY, MUN, 0), 0),
            (read(2, "Mun holds"), [1, 1, 1, 5]), (read(3, "Mun holds"), [0, 1]),
        )

    def test_clear(self):
        self.check(
            *PLACED, (read(2, "Mun to Bgd"), [0, 1]), (clear(), 0), (read(2, "Mun to Bgd"), [1, 1, 1, 2]),
            (orders(), [0]), *PLACED, (orders(), all_orders()), (read(2, "Mun to Bgd"), [0, 1]),
            (orders(), all_orders(mun=[1, BGD, 0, 0, 0])),
        )

    def test_names_as_the_provinces_come(self):
        self.check(
            (nth_province(0), 0), (man(1, ARMY, 0, 0), 0), (read(1, "N holds"), [0, 1]), (nth_province(1), 1),
            (read(1, "N holds"), [1, 1, 1, 3]), (read(1, "Naa to Nab"), [0, 1]), (order(0), [1, 0, 0, 1, 1, 0, 0, 0]),
        )

    def test_links_as_they_come(self):
        # The shore is the one that is meant when the line is read; a later link doesn't change it.
        self.check(
            *WORLD, (man(1, FLEET, BAL, 0), 0), (read(1, "Bal to Bul"), [0, 1]),
            (order(BAL), [1, 1, 0, 1, BUL, 0, 0, 2]), (sea(BAL, 0, BUL, 2), 0),
            (order(BAL), [1, 1, 0, 1, BUL, 0, 0, 2]), (read(1, "Bal to Bul"), [0, 1]),
            (order(BAL), [1, 1, 0, 1, BUL, 2, 0, 0]), (sea(BUL, 0, BAL, 0), 0), (read(1, "Bal to Bul"), [1, 1, 1, 9]),
            (order(BAL), [1, 1, 0, 1, BUL, 2, 0, 0]), (read(1, "Bal to Bul/n"), [0, 1]),
            (order(BAL), [1, 1, 0, 1, BUL, 0, 0, 0]),
        )

    def test_24_units(self):
        units = [man(5, p % 2, p, 0) for p in range(24)]
        text = "".join(f"N{two_letters(p)} supports Naa\n" for p in range(24))
        four = [number for p in range(24) for number in (p, 2, 0, 0, 0, 4 if p == 0 else 3)]
        self.check(
            *[(nth_province(p), p) for p in range(24)], *done(units), (read(5, text), [0, 24]), (orders(), [24] + four),
            (read(5, text + "Naa holds"), [1, 1, 25, 7]), (orders(), [24] + four),
        )


class ToldTwice(CallsTest):
    def wrong(self, text, *wrong):
        self.check(*PLACED, (read(2, text), [1, len(wrong) // 2, *wrong]), (orders(), all_orders()))

    def test_the_same_and_another_order(self):
        self.wrong("Mun holds\nMun holds", 2, 7)
        self.wrong("Mun to Bgd\nKie holds\nMunich to Kie", 3, 7)
        self.wrong("Mun holds\narmy M supports Kie", 2, 7)
        self.wrong("Bal carries Kie to Ber\nfleet Bal carries Kie to Ber", 2, 7)

    def test_three_times(self):
        self.wrong("Mun holds\nMun holds\nMun holds", 2, 7, 3, 7)
        self.wrong("Mun holds\nKie holds\nKie holds\nMun holds", 3, 7, 4, 7)

    def test_the_earlier_line_wrong(self):
        self.wrong("Mun jumps\nMun holds", 1, 1)
        self.wrong("fleet Mun holds\nMun holds\nMun holds", 1, 6, 3, 7)
        self.wrong("Mun to Spa/north\nMun to Spa", 1, 8)
        self.wrong("Mun to B\nMun to Xyz\nMun to Bgd", 1, 3, 2, 2)

    def test_other_errors_come_first(self):
        for line, error in (
            ("Mun\t", 1), ("Mun", 1), ("Mun jumps", 1), ("Mun holds Mun", 1), ("Mun to", 1), ("Mun to Kie by", 1),
            ("Mun supports", 1), ("Mun supports Kie to", 1), ("Mun carries Kie", 1), ("Mun to Xyz", 2),
            ("Mun supports Kie to Xyz", 2), ("Mun to B", 3), ("Mun carries Kie to B", 3), ("Mun/x holds", 4),
            ("Mun to Spa/x", 4), ("fleet Mun holds", 6), ("Mun to Spa/north", 8),
        ):
            self.wrong(f"Mun holds\n{line}", 2, error)
            self.wrong(f"Mun holds\n{line}\nMun holds", 2, error, 3, 7)

    def test_several_shores_come_first(self):
        self.check(*PLACED, (read(4, "Nth holds\nNth to Spa"), [1, 1, 2, 9]))
        self.check(*PLACED, (read(4, "Nth to Spa\nNth holds\nNth to Bul"), [1, 2, 1, 9, 3, 7]))

    def test_remarks_tell_nothing(self):
        self.check(*PLACED, (read(2, "# Mun holds\nMun holds\n # Mun holds"), [0, 1]))


if __name__ == "__main__":
    unittest.main()
