"""The call printed: the one form of orders."""

import unittest

from call_lists import (
    ARMY, BAL, BER, BUL, COAST, FLEET, GUL, KIE, LAND, LEAST, MOST, MUN, NOR, NTH, SEA, SPA, WORLD, CallsTest, clear,
    done, gone, land, man, nth_province, orders, printed, province, read, text_answer, two_letters,
)

PLACED = WORLD + done([
    man(2, ARMY, MUN, 0), man(2, FLEET, KIE, 0), man(2, FLEET, BAL, 0), man(2, FLEET, SPA, 1), man(2, ARMY, BUL, 0),
    man(2, FLEET, NTH, 0), man(3, ARMY, BER, 0), man(3, FLEET, GUL, 0),
])


class Printed(CallsTest):
    def is_printed(self, line, p_line):
        """The line, read by itself, is printed as told; the other units hold."""
        held = {
            "Mun": "army Mun holds", "Kie": "fleet Kie holds", "Bal": "fleet Bal holds", "Spa": "fleet Spa/south holds",
            "Bul": "army Bul holds", "Nth": "fleet Nth holds",
        }
        held[p_line.split()[1][:3]] = p_line
        text = "".join(there + "\n" for there in held.values())
        self.check(*PLACED, (read(2, line), [0, 1]), (printed(2), text_answer(text)))

    def test_holds(self):
        self.is_printed("Munich holds", "army Mun holds")
        self.is_printed("Baltic holds", "fleet Bal holds")
        self.is_printed("Spain holds", "fleet Spa/south holds")
        self.is_printed("Bulgaria holds", "army Bul holds")

    def test_moves_of_armies(self):
        self.is_printed("Munich to Kiel", "army Mun to Kie")
        self.is_printed("Munich to Spain", "army Mun to Spa")
        self.is_printed("Bulgaria to Spain by water", "army Bul to Spa by water")
        self.is_printed("Bulgaria to Bulgaria", "army Bul to Bul")
        self.is_printed("Munich to Kiel   by   water", "army Mun to Kie by water")

    def test_moves_of_fleets(self):
        self.is_printed("Baltic to Kiel", "fleet Bal to Kie")
        self.is_printed("Baltic to Kiel by water", "fleet Bal to Kie by water")
        self.is_printed("Northsea to Spain/north", "fleet Nth to Spa/north")
        self.is_printed("Northsea to Spain/south by water", "fleet Nth to Spa/south by water")
        self.is_printed("Northsea to Bulgaria", "fleet Nth to Bul/s")
        self.is_printed("Baltic to Bulgaria", "fleet Bal to Bul/n")
        self.is_printed("Spain to Gulf", "fleet Spa/south to Gul")
        self.is_printed("Spain to Bulgaria/e", "fleet Spa/south to Bul/e")
        self.is_printed("Spain to Spain", "fleet Spa/south to Spa/north")
        self.is_printed("Baltic to Munich", "fleet Bal to Mun")

    def test_supports(self):
        self.is_printed("Munich supports fleet Kiel", "army Mun supports Kie")
        self.is_printed("Munich supports army Spain/north", "army Mun supports Spa")
        self.is_printed("Spain supports Bulgaria", "fleet Spa/south supports Bul")
        self.is_printed("Munich supports fleet Spain/north to Bulgaria/e", "army Mun supports Spa to Bul")
        self.is_printed("Northsea supports Holland to Norway", "fleet Nth supports Nor to Nwy")

    def test_carries(self):
        self.is_printed("Northsea carries army Holland to Norway", "fleet Nth carries Nor to Nwy")
        self.is_printed("Northsea carries Spain/north to Bulgaria/n", "fleet Nth carries Spa to Bul")
        self.is_printed("Munich carries Kiel to Kiel", "army Mun carries Kie to Kie")

    def test_each_power_by_itself(self):
        self.check(
            *PLACED, (printed(3), text_answer("fleet Gul holds\narmy Ber holds\n")), (printed(0), [0]),
            (printed(6), [0]), (read(3, "Ber to Kie"), [0, 1]),
            (printed(3), text_answer("fleet Gul holds\narmy Ber to Kie\n")), (gone(GUL), 0),
            (printed(3), text_answer("army Ber to Kie\n")), (gone(BER), 0), (printed(3), [0]),
        )

    def test_written_out(self):
        self.check(
            *PLACED, (gone(GUL), 0),
            (printed(3), [15, 97, 114, 109, 121, 32, 66, 101, 114, 32, 104, 111, 108, 100, 115, 10]),
        )

    def test_in_the_order_of_provinces(self):
        self.check(
            *WORLD, *done([man(1, FLEET, NOR, 0), man(1, ARMY, MUN, 0), man(1, FLEET, SPA, 0), man(1, ARMY, KIE, 0)]),
            (printed(1), text_answer("army Mun holds\narmy Kie holds\nfleet Spa/north holds\nfleet Nor holds\n")),
            (read(1, "Nor to Nth\nSpa to Nth\nKie to Nor\nMun to Kie"), [0, 4]),
            (printed(1), text_answer(
                "army Mun to Kie\narmy Kie to Nor\nfleet Spa/north to Nth\nfleet Nor to Nth\n")),
        )

    def test_powers_out_of_range(self):
        for power in (-1, 7, 8, LEAST, MOST):
            self.check(*PLACED, (printed(power), -1), (printed(3), text_answer("fleet Gul holds\narmy Ber holds\n")))
            self.check((printed(power), -1))

    def test_first_and_last_power(self):
        for power in (0, 6):
            self.check(
                (printed(power), [0]), *WORLD, (printed(power), [0]), (man(power, ARMY, MUN, 0), 0),
                (printed(power), text_answer("army Mun holds\n")), (printed(6 - power), [0]), (clear(), 0),
                (printed(power), [0]),
            )

    def test_it_changes_nothing(self):
        self.check(
            *WORLD, (man(1, ARMY, MUN, 0), 0), (read(1, "Mun to Kie"), [0, 1]),
            (printed(1), text_answer("army Mun to Kie\n")), (orders(), [1, MUN, 1, KIE, 0, 0, 0]),
            (printed(1), text_answer("army Mun to Kie\n")),
        )

    def test_every_shore(self):
        self.check(
            (province(COAST, "Finland", "Fin", "  z  abcdefgh y x "), 0), (province(SEA, "Bothnia", "Bot"), 1),
            (man(1, FLEET, 1, 0), 0),
            *[step for shore in ("z", "abcdefgh", "y", "x") for step in (
                (read(1, f"Bot to Fin/{shore}"), [0, 1]), (printed(1), text_answer(f"fleet Bot to Fin/{shore}\n")),
            )],
        )

    def test_the_longest(self):
        shore = "abcdefgh"
        calls = [(nth_province(p, COAST, "x " + shore), p) for p in range(24)]
        units = done([man(4, FLEET, p, 1) for p in range(24)])
        lines = [f"N{two_letters(p)}/{shore} to Nbd/{shore} by water\n" for p in range(24)]
        wanted = "".join("fleet " + line for line in lines)
        self.check(*calls, *units, (read(4, "".join(lines)), [0, 24]), (printed(4), text_answer(wanted)))

    def test_40_times(self):
        self.check(
            (province(LAND, "Munich", "Mun"), 0), (province(LAND, "Burgundy", "Bur"), 1), (land(0, 1), 0),
            (man(0, ARMY, 0, 0), 0), (read(0, "M to B"), [0, 1]),
            *[(printed(0), text_answer("army Mun to Bur\n"))] * 40,
        )


if __name__ == "__main__":
    unittest.main()
