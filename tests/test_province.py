"""The call province."""

import unittest

from call_lists import (
    COAST, FLEET, LAND, LEAST, MOST, SEA, CallsTest, gone, made, man, nth_province, province, provinces, sea,
)

GOOD = province(COAST, "Kiel", "Kie")


class Ordinary(CallsTest):
    def test_numbers_in_order(self):
        self.check(
            (province(LAND, "Munich", "Mun"), 0), (province(SEA, "Baltic", "Bal"), 1),
            (province(COAST, "Kiel", "Kie"), 2), (province(COAST, "Spain", "Spa", "north south"), 3),
        )

    def test_every_kind(self):
        for kind in (LAND, SEA, COAST):
            self.check((province(kind, "Kiel", "Kie"), 0))

    def test_name_need_not_begin_like_the_short_name(self):
        self.check((province(COAST, "Livonia", "Lvn"), 0), (province(COAST, "Norway", "Nwy"), 1))

    def test_a_name_may_begin_another(self):
        self.check((province(LAND, "Nor", "Nrw"), 0), (province(LAND, "Norway", "Nwy"), 1))


class OutOfRange(CallsTest):
    def refused_first(self, call):
        self.check((call, -1), (gone(0), -1), (GOOD, 0), (call, -1), (gone(1), -1), (nth_province(0), 1))

    def test_kind(self):
        for kind in (-1, 3, LEAST, MOST):
            self.refused_first(province(kind, "Kiel", "Kie"))
            self.refused_first(province(kind, "", "", "x"))

    def test_40_numbers_are_in_range(self):
        letters = "A" + "a" * 39
        self.check(
            (province(LAND, letters, "Kie"), -3), (province(LAND, "Kiel", letters), -3),
            (province(LAND, "Kiel", "Kie", "a" * 40), -3), (province(LAND, "Kiel", "Kie", " " * 40), 0),
        )

    def test_41_numbers_and_more(self):
        for longer in (41, 42, 50):
            letters = "A" + "a" * (longer - 1)
            self.refused_first(province(LAND, letters, "Kie"))
            self.refused_first(province(LAND, "Kiel", letters))
            self.refused_first(province(COAST, "Kiel", "Kie", " " * longer))

    def test_shores_of_40_and_of_41_numbers(self):
        words = "abcdefgh abcdefgi abcdefgj abcdefgk"
        longer, longest = words.ljust(41), words.ljust(40)
        self.check((province(COAST, "Kiel", "Kie", longer), -1), (province(COAST, "Kiel", "Kie", longest), 0))

    def test_numbers_that_are_no_bytes(self):
        name, short_name, shores = list(b"Kiel"), list(b"Kie"), list(b"north south")
        for wrong in (-1, 256, LEAST, MOST):
            for text in (name, short_name, shores):
                for place in range(len(text)):
                    kept = text[place]
                    text[place] = wrong
                    self.refused_first(province(COAST, name, short_name, shores))
                    text[place] = kept

    def test_no_byte_beside_a_wrong_form(self):
        self.refused_first(province(LAND, [256], "Kie"))
        self.refused_first(province(LAND, "kiel", [-1]))
        self.refused_first(province(LAND, "kiel", "k", [32, 32, 256]))
        self.refused_first(province(SEA, "", "", list(b"a a a a a a") + [-1]))


class Form(CallsTest):
    def refused(self, call, after=GOOD):
        self.check((call, -3), (gone(0), -1), (after, 0), (call, -3), (gone(1), -1), (nth_province(0), 1))

    def taken(self, call):
        self.check((call, 0), (call, -4))

    def test_length_of_names(self):
        self.refused(province(LAND, "", "Kie"))
        self.refused(province(LAND, "K", "Kie"))
        self.taken(province(LAND, "Ki", "Kie"))
        self.taken(province(LAND, "K" + "i" * 15, "Kie"))
        self.refused(province(LAND, "K" + "i" * 16, "Kie"))

    def test_length_of_short_names(self):
        for short_name in ("", "K", "Ki", "Kiel", "Kieler"):
            self.refused(province(LAND, "Kiel", short_name))

    def test_letters_of_names(self):
        for name in ("kiel", "KIEL", "KIel", "kIel", "Ki l", "Kiel ", " Kiel", "Ki/l", "Kie1", "1iel", "Ki-l", "#iel"):
            self.refused(province(LAND, name, "Kie"))
        for short_name in ("kie", "KIE", "KIe", "KiE", "K e", "Ki ", " Ki", "K/e", "Ki1", "1ie", "#ie"):
            self.refused(province(LAND, "Kiel", short_name))

    def test_first_and_last_letters(self):
        self.taken(province(LAND, "Azaz", "Zaz"))
        self.taken(province(LAND, "Zz", "Aza"))

    def test_bytes_beside_the_letters(self):
        for wrong in (0, 10, 31, 32, 33, 64, 91, 96, 97, 122, 123, 127, 128, 255):
            self.refused(province(LAND, [wrong] + list(b"iel"), "Kie"))
            self.refused(province(LAND, "Kiel", [wrong] + list(b"ie")))
        for wrong in (0, 10, 31, 32, 33, 64, 65, 90, 91, 96, 123, 127, 128, 255):
            for place in (1, 2):
                name, short_name = list(b"Kie"), list(b"Kil")
                name[place] = wrong
                self.refused(province(LAND, name, "Kie"))
                short_name[place] = wrong
                self.refused(province(LAND, "Kiel", short_name))

    def test_bytes_in_shores(self):
        for wrong in (0, 9, 10, 31, 33, 47, 64, 65, 90, 91, 96, 123, 127, 128, 255):
            for shores in ([wrong] + list(b"orth south"), list(b"nort") + [wrong] + list(b" south"),
                           list(b"north sout") + [wrong], list(b"north ") + [wrong] + list(b" south")):
                self.refused(province(COAST, "Kiel", "Kie", shores))


class Shores(CallsTest):
    def has_shores(self, shores, how_many, kind=COAST):
        steps = [(province(kind, "Spain", "Spa", shores), 0), (province(SEA, "Gulf", "Gul"), 1)]
        steps += [(sea(0, shore, 1, 0), 0) for shore in range(how_many)]
        self.check(*steps, (sea(0, how_many, 1, 0), -1), (man(0, FLEET, 0, how_many - 1), 0))

    def refused(self, shores, kind=COAST):
        call = province(kind, "Spain", "Spa", shores)
        self.check((call, -3), (gone(0), -1), (province(kind, "Spain", "Spa"), 0))

    def test_none(self):
        self.has_shores("", 1)
        self.has_shores(" ", 1)
        self.has_shores("     ", 1)
        self.has_shores("   ", 1, SEA)
        self.check((province(LAND, "Munich", "Mun", "    "), 0))

    def test_two_to_four(self):
        self.has_shores("n s", 2)
        self.has_shores("north south", 2)
        self.has_shores("north south east", 3)
        self.has_shores("north south east west", 4)

    def test_one_and_five(self):
        self.refused("north")
        self.refused("  north ")
        self.refused("a b c d e")
        self.refused("a b c d e f g h i j k l m n o p q r s t")

    def test_blanks(self):
        self.has_shores(" north south", 2)
        self.has_shores("north south ", 2)
        self.has_shores("north     south", 2)
        self.has_shores("   n   s    e    w   ", 4)

    def test_length_of_names(self):
        self.has_shores("a abcdefgh", 2)
        self.has_shores("abcdefgh a", 2)
        self.refused("a abcdefghi")
        self.refused("abcdefghi a")
        self.refused("a b c abcdefghi")

    def test_first_and_last_letters(self):
        self.has_shores("az za", 2)

    def test_alike(self):
        self.refused("north north")
        self.refused("a b a")
        self.refused("a b b")
        self.refused("a b c a")
        self.refused("a b c c")

    def test_one_may_begin_another(self):
        self.has_shores("a aa aaa b", 4)

    def test_other_words_than_letters(self):
        self.refused("North south")
        self.refused("north South")
        self.refused("north s/h")
        self.refused("north,south")
        self.refused("north 2")

    def test_only_coasts_have_them(self):
        for kind in (LAND, SEA):
            self.refused("north south", kind)
            self.refused("north", kind)
            self.refused("a b c d", kind)

    def test_two_provinces_may_have_the_same(self):
        self.check(
            (province(COAST, "Spain", "Spa", "n s"), 0), (province(COAST, "Bulgaria", "Bul", "n s"), 1),
            (sea(0, 1, 1, 1), 0), (sea(0, 2, 1, 1), -1), (sea(0, 1, 1, 2), -1),
        )


class Taken(CallsTest):
    def refused(self, call):
        self.check(
            (province(COAST, "Kil", "Kie"), 0), (province(LAND, "Mun", "Mch"), 1), (call, -4), (gone(2), -1),
            (nth_province(0), 2), (call, -4), (gone(3), -1),
        )

    def test_names_in_common(self):
        for name in ("Kil", "Kie", "Mun", "Mch"):
            self.refused(province(SEA, name, "Xyz"))
            self.refused(province(SEA, "Xyzzy", name))

    def test_both_in_common(self):
        self.refused(province(COAST, "Kil", "Kie"))
        self.refused(province(COAST, "Kie", "Kil"))
        self.refused(province(COAST, "Kie", "Mun"))

    def test_both_alike(self):
        self.refused(province(LAND, "Xyz", "Xyz"))
        self.refused(province(LAND, "Kil", "Kil"))
        self.check((province(LAND, "Xyz", "Xyz"), -4), (province(LAND, "Xyz", "Xyy"), 0))

    def test_refused_names_stay_free(self):
        self.check(
            (province(COAST, "Kiel", "Kie"), 0), (province(COAST, "Holland", "Kie"), -4),
            (province(COAST, "Kiel", "Hol"), -4), (province(COAST, "Holland", "Hol", "x"), -3),
            (province(3, "Holland", "Hol"), -1), (province(COAST, "Holland", "Hol"), 1),
        )

    def test_form_comes_first(self):
        self.check(
            (province(COAST, "Kiel", "Kie"), 0), (province(COAST, "Kiel", "kie"), -3),
            (province(COAST, "kiel", "Kie"), -3), (province(COAST, "Kiel", "Kie", "x"), -3),
            (province(LAND, "Kiel", "Kie", "x y"), -3), (province(COAST, "Kiel", "Kie", "x x"), -3),
            (province(COAST, "kie", "kie"), -3), (province(COAST, "Xyz", "Xyz", "x"), -3), (gone(1), -1),
        )

    def test_range_comes_first(self):
        self.check(
            (province(COAST, "Kiel", "Kie"), 0), (province(3, "Kiel", "Kie"), -1), (province(-1, "Xyz", "Xyz"), -1),
            (province(COAST, "Kiel", "Kie", [256]), -1), (gone(1), -1),
        )


class Full(CallsTest):
    def test_40_and_one_more(self):
        self.check(
            *made(provinces(40)), (gone(39), -5), (nth_province(40), -2), (nth_province(41, SEA), -2),
            (nth_province(42, COAST, "n s"), -2), (gone(40), -1),
        )

    def test_the_other_refusals_come_first(self):
        self.check(
            *made(provinces(40)), (province(3, "Kiel", "Kie"), -1), (province(LAND, "K" * 41, "Kie"), -1),
            (province(LAND, "Kiel", "kie"), -3), (province(LAND, "Kiel", "Kie", "n s"), -3),
            (nth_province(0), -4), (nth_province(39), -4), (province(LAND, "Kie", "Kie"), -4),
            (province(LAND, "Kiel", "Kie"), -2), (province(LAND, "Kiel", "Kie"), -2),
        )

    def test_refused_ones_are_not_counted(self):
        self.check(
            *made(provinces(39)), (nth_province(0), -4), (province(LAND, "kiel", "Kie"), -3),
            (province(9, "Kiel", "Kie"), -1), (nth_province(39), 39), (nth_province(40), -2),
        )


if __name__ == "__main__":
    unittest.main()
