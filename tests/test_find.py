"""The call find, and what a province's word means."""

import unittest

from call_lists import (
    BAL, BER, BGD, BUL, COAST, KIE, KLC, LAND, LEAST, MOST, MUN, NOR, NTH, NWY, SEA, SPA, WORLD, CallsTest, clear,
    find, made, nth_province, province, provinces,
)


class Find(CallsTest):
    def means(self, word, *meant):
        self.check(*WORLD, (find(word), [len(meant), *meant]))

    def test_names(self):
        self.means("Munich", MUN)
        self.means("Burgundy", BGD)
        self.means("Holland", NOR)

    def test_short_names(self):
        self.means("Mun", MUN)
        self.means("Bgd", BGD)
        self.means("Klc", KLC)

    def test_a_beginning_of_one(self):
        self.means("M", MUN)
        self.means("Munic", MUN)
        self.means("S", SPA)
        self.means("H", NOR)

    def test_a_beginning_of_several_rising(self):
        self.means("B", BAL, BUL, BER, BGD)
        self.means("Bu", BUL, BGD)
        self.means("K", KIE, KLC)
        self.means("Ki", KIE, KLC)

    def test_a_name_before_beginnings(self):
        self.means("Kiel", KIE)
        self.means("Kielc", KLC)

    def test_a_short_name_before_beginnings(self):
        self.means("Nor", NOR)
        self.means("No", NTH, NWY)
        self.means("Nort", NTH)
        self.means("Norw", NWY)

    def test_beginnings_of_short_names_mean_nothing(self):
        self.means("Bg")
        self.means("Nw")
        self.means("N", NTH, NWY)

    def test_the_empty_word(self):
        self.means("")
        self.check((find(""), [0]), (nth_province(0), 0), (find(""), [0]))

    def test_no_such_word(self):
        for word in ("X", "mun", "MUN", "Munichx", "unich", "Mun ", " Mun", "Mun/", "Spa/north", "/", "army", "M*"):
            self.means(word)

    def test_all_bytes_are_in_range(self):
        for byte in (0, 10, 31, 32, 126, 127, 255):
            self.means([byte])
            self.means(list(b"Mun") + [byte])

    def test_words_of_40_and_more(self):
        long_name = "N" + "a" * 15
        self.check(
            (province(SEA, long_name, "Xyz"), 0), (find(long_name), [1, 0]), (find(long_name + "a"), [0]),
            (find("N" + "a" * 39), [0]), (find("N" + "a" * 40), -1), (find("N" * 50), -1), (find([32] * 40), [0]),
            (find([32] * 41), -1),
        )

    def test_numbers_out_of_range(self):
        for number in (-1, 256, LEAST, MOST):
            self.check(
                *WORLD, (find([number]), -1), (find(list(b"Mun") + [number]), -1), (find([number] + list(b"Mun")), -1),
                (find([number] * 50), -1), (find("Mun"), [1, MUN]),
            )

    def test_nothing_there(self):
        self.check((find("Mun"), [0]), (find("M"), [0]), (find([256]), -1), (find([77] * 41), -1))

    def test_as_the_provinces_come(self):
        self.check(
            (province(LAND, "Kielce", "Klc"), 0), (find("Kiel"), [1, 0]), (find("Kie"), [1, 0]),
            (province(COAST, "Kiel", "Kla"), 1), (find("Kiel"), [1, 1]), (find("Kie"), [2, 0, 1]),
            (province(SEA, "Xyzzy", "Kie"), 2), (find("Kie"), [1, 2]), (find("Ki"), [2, 0, 1]),
            (clear(), 0), (find("Kie"), [0]), (find("Ki"), [0]),
        )

    def test_refused_provinces_are_not_found(self):
        self.check(
            (province(LAND, "Kielce", "Klc"), 0), (province(LAND, "Kielcy", "Klc"), -4), (find("Kielc"), [1, 0]),
            (find("Kielcy"), [0]),
        )

    def test_all_40(self):
        self.check(
            *made(provinces(40)), (find("N"), [40, *range(40)]), (find("Naa"), [1, 0]),
            (find("Nb"), [20, *range(20, 40)]),
        )


if __name__ == "__main__":
    unittest.main()
