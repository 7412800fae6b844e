"""How one line is read: the order that it tells, or its error."""

import unittest

from call_lists import (
    ARMY, BAL, BER, BGD, BUL, FLEET, GUL, KIE, KLC, MUN, NOR, NTH, NWY, SPA, WORLD, CallsTest, answers_apart, done, man,
    order, orders, read,
)

POWER = 2
# Of the reading power: armies in Munich and Bulgaria, fleets in Kiel, the Baltic, Spain's south and the Northsea. Of
# another: an army in Berlin, a fleet in the Gulf.
PLACED = WORLD + done([
    man(POWER, ARMY, MUN, 0), man(POWER, FLEET, KIE, 0), man(POWER, FLEET, BAL, 0), man(POWER, FLEET, SPA, 1),
    man(POWER, ARMY, BUL, 0), man(POWER, FLEET, NTH, 0), man(3, ARMY, BER, 0), man(3, FLEET, GUL, 0),
])
ALL_HOLD = [8] + [number for p in (MUN, KIE, BAL, SPA, BUL, GUL, BER, NTH) for number in (p, 0, 0, 0, 0, 0)]
EARLIER = "\n".join(f"{place} supports Klc" for place in ("Mun", "Kie", "Bal", "Spa", "Bul", "Nth"))


class LinesTest(CallsTest):
    def wrong(self, error, *lines):
        for line in lines:
            with self.subTest(line=line):
                self.check(*PLACED, (read(POWER, line), [1, 1, 1, error]), (orders(), ALL_HOLD))

    def right(self, p, told, *lines):
        """Each of the lines by itself gives the unit in p the order told."""
        for line in lines:
            with self.subTest(line=line):
                calls = [call for call, _ in PLACED] + [read(POWER, EARLIER), read(POWER, line), order(p)]
                earlier, now, (power, _, _, *four, _) = answers_apart(calls)[-3:]
                self.assertEqual((earlier, now, power, four), ([0, 6], [0, 1], POWER, told))


class Orders(LinesTest):
    def test_holds(self):
        self.right(MUN, [0, 0, 0, 0], "Mun holds", "army Mun holds", "Munich holds", "army M holds")
        self.right(BAL, [0, 0, 0, 0], "Bal holds", "fleet Bal holds", "Balti holds")
        self.right(SPA, [0, 0, 0, 0], "Spa holds", "Spa/south holds", "fleet Spain/south holds", "S/south holds")

    def test_moves_of_armies(self):
        self.right(MUN, [1, KIE, 0, 0], "Mun to Kie", "army Mun to Kiel", "Munich to Kiel")
        self.right(MUN, [1, SPA, 0, 0], "Mun to Spa", "army Mun to Spain")
        self.right(MUN, [1, BAL, 0, 0], "Mun to Bal")
        self.right(MUN, [1, MUN, 0, 0], "Mun to Mun")
        self.right(BUL, [1, SPA, 0, 0], "Bul to Spa")
        self.right(BUL, [1, BUL, 0, 0], "Bul to Bul")

    def test_moves_by_water(self):
        self.right(MUN, [1, KIE, 0, 1], "Mun to Kie by water", "army Munich to Kiel by water")
        self.right(BUL, [1, SPA, 0, 1], "Bul to Spa by water")
        self.right(BAL, [1, KIE, 0, 1], "Bal to Kie by water")
        self.right(NTH, [1, SPA, 1, 1], "fleet Nth to Spa/south by water")

    def test_moves_of_fleets_to_the_shore_told(self):
        self.right(NTH, [1, SPA, 0, 0], "Nth to Spa/north", "fleet Northsea to Spain/north")
        self.right(NTH, [1, SPA, 1, 0], "Nth to Spa/south")
        for number, shore in enumerate("nesw"):
            self.right(NTH, [1, BUL, number, 0], f"Nth to Bul/{shore}")
            self.right(BAL, [1, BUL, number, 0], f"Bal to Bulg/{shore}")

    def test_moves_of_fleets_without_a_shore(self):
        self.right(BAL, [1, KIE, 0, 0], "Bal to Kie", "fleet Bal to Kiel")
        self.right(BAL, [1, NTH, 0, 0], "Bal to Nth")
        self.right(BAL, [1, MUN, 0, 0], "Bal to Mun")
        self.right(NTH, [1, BUL, 2, 0], "Nth to Bul", "fleet Northsea to Bulg")
        self.right(NTH, [1, BUL, 2, 1], "Nth to Bul by water")
        self.right(BAL, [1, BUL, 0, 0], "Bal to Bul")
        self.right(BAL, [1, SPA, 0, 0], "Bal to Spa")
        self.right(SPA, [1, SPA, 0, 0], "Spa to Spa")
        self.wrong(9, "Nth to Spa", "fleet Nth to Spain", "Nth to Spa by water", "Spa to Bul", "Spa/south to Bul")

    def test_the_fleets_own_shore_counts(self):
        self.check(
            *WORLD, (man(POWER, FLEET, SPA, 0), 0), (read(POWER, "Spa to Bul"), [0, 1]),
            (order(SPA), [POWER, FLEET, 0, 1, BUL, 3, 0, 0]),
        )
        self.check(*WORLD, (man(POWER, FLEET, SPA, 1), 0), (read(POWER, "Spa to Bul"), [1, 1, 1, 9]))

    def test_supports_of_a_unit(self):
        self.right(MUN, [2, KIE, 0, 0], "Mun supports Kie", "army Mun supports fleet Kie", "Mun supports Kiel")
        # Nothing is asked of the unit word and the shore there, nor that there is a unit.
        self.right(MUN, [2, BER, 0, 0], "Mun supports fleet Ber", "Mun supports army Ber")
        self.right(MUN, [2, SPA, 0, 0], "Mun supports Spa/north", "Mun supports army Spa/south", "Mun supports Spa")
        self.right(BAL, [2, NWY, 0, 0], "Bal supports Nwy")
        self.right(MUN, [2, MUN, 0, 0], "Mun supports Mun", "Mun supports fleet Mun")

    def test_supports_of_a_move(self):
        self.right(MUN, [3, BGD, SPA, 0], "Mun supports Bgd to Spa", "army Mun supports army Burg to Spain")
        self.right(MUN, [3, BGD, SPA, 0], "Mun supports fleet Bgd to Spa/north", "Mun supports Bgd to Spa/south")
        self.right(NTH, [3, SPA, BUL, 0], "Nth supports Spa/north to Bul/w", "fleet Nth supports fleet Spa to Bul")
        self.right(MUN, [3, MUN, MUN, 0], "Mun supports Mun to Mun")
        self.right(MUN, [3, NOR, NWY, 0], "Mun supports Nor to Norw")

    def test_carries(self):
        self.right(BAL, [4, KIE, BER, 0], "Bal carries Kie to Ber", "fleet Baltic carries army Kiel to Berlin")
        self.right(BAL, [4, SPA, BUL, 0], "Bal carries fleet Spa/north to Bul/e", "Bal carries Spa to Bul")
        self.right(MUN, [4, KIE, KIE, 0], "Mun carries Kie to Kie")
        self.right(BAL, [4, KLC, NTH, 0], "Bal carries Klc to Nth")

    def test_blanks(self):
        self.right(
            MUN, [1, KIE, 0, 1], " Mun to Kie by water", "Mun to Kie by water ", "Mun  to   Kie    by     water",
            "   army   Mun  to Kiel by water   ",
        )
        self.right(MUN, [2, KIE, 0, 0], "Mun supports Kie     ", "  Mun  supports  fleet  Kie ")


class FormErrors(LinesTest):
    def test_bytes(self):
        for byte in (0, 9, 13, 31, 127, 128, 255):
            self.wrong(1, [byte], list(b"Mun holds") + [byte], [byte] + list(b"Mun holds"), list(b"Mun ") + [byte])
            self.wrong(1, list(b"Mun holds ") + [byte], list(b"  ") + [byte], list(b"# remark ") + [byte])
        for byte in (33, 126):
            self.wrong(2, [byte], [byte] + list(b"Mun holds"), list(b"Mun") + [byte] + list(b" holds"))
            self.wrong(1, list(b"Mun holds") + [byte])
            self.check(*PLACED, (read(POWER, list(b"# ") + [byte]), [0, 0]))
        self.check(*PLACED, (read(POWER, [32]), [0, 0]), (read(POWER, list(b" Mun holds ")), [0, 1]))

    def test_bytes_come_before_all_others(self):
        self.wrong(
            1, "Xyz\x7f holds", "Xyz holds\x1f", "B holds\t", "Mun/x holds\t", "Ber holds\t", "fleet Mun holds\t",
            "Mun to Spa/north\t", "Nth to Spa\t",
        )

    def test_no_place_at_the_beginning(self):
        self.wrong(1, "army", "fleet", "  army  ")

    def test_no_verb(self):
        self.wrong(
            1, "Mun", "army Mun", "Spa/south", "Mun Kie", "Mun hold", "Mun Holds", "Mun holdss", "Mun support Kie",
        )
        self.wrong(1, "Mun goes Kie", "Mun army to Kie", "Mun by water", "Mun carry Kie to Ber", "Mun To Kie", "Mun #")

    def test_words_behind_holds(self):
        self.wrong(1, "Mun holds Mun", "Mun holds holds", "Mun holds #", "Mun holds by water")

    def test_to(self):
        self.wrong(1, "Mun to", "army Mun to", "Bal to")
        self.wrong(1, "Mun to Kie by", "Mun to Kie water", "Mun to Kie by sea", "Mun to Kie by water water")
        self.wrong(
            1, "Mun to Kie water by", "Mun to Kie at water", "Mun to Kie by water by water", "Mun to Kie By water",
        )
        self.wrong(1, "Bal to Kie by", "Bal to Kie by land", "Bal to Kie to Ber", "Mun to Kie by water #")

    def test_supports(self):
        self.wrong(1, "Mun supports", "Mun supports army", "Mun supports fleet")
        self.wrong(
            1, "Mun supports Kie to", "Mun supports Kie from Ber", "Mun supports Kie Ber", "Mun supports Kie holds",
        )
        self.wrong(
            1, "Mun supports Kie to Ber by water", "Mun supports Kie to Ber Ber", "Mun supports Kie to fleet Ber",
        )
        self.wrong(1, "Mun supports army Kie To Ber", "Mun supports army Kie Ber to")

    def test_carries(self):
        self.wrong(1, "Bal carries", "Bal carries army", "Bal carries fleet")
        self.wrong(1, "Bal carries Kie", "Bal carries army Kie", "Bal carries Kie to", "Bal carries Kie from Ber")
        self.wrong(1, "Bal carries Kie to Ber by water", "Bal carries Kie to Ber Ber", "Bal carries Kie Ber to")
        self.wrong(1, "Bal carries Kie to army Ber")


class PlaceErrors(LinesTest):
    def test_no_province(self):
        self.wrong(2, "Xyz holds", "army Xyz holds", "mun holds", "Muni* holds", "Bg holds", "Munichs holds")
        self.wrong(
            2, "Mun to Xyz", "Bal to Xyz", "Mun supports Xyz", "Mun supports army Xyz", "Mun supports Xyz to Kie",
        )
        self.wrong(2, "Mun supports Kie to Xyz", "Bal carries Xyz to Kie", "Bal carries Kie to Xyz")

    def test_words_of_orders_are_no_provinces(self):
        self.wrong(2, "holds", "to", "to Mun", "supports Mun", "by water", "army army Mun holds", "army fleet holds")
        self.wrong(2, "fleet army", "fleet holds", "army to Mun", "Mun to army", "Mun to fleet Kie", "Mun to by water")
        self.wrong(
            2, "Mun supports army army", "Mun supports fleet army Kie", "Mun supports to Kie", "Mun supports holds",
        )
        self.wrong(2, "Mun supports Kie to army", "Bal carries fleet army to Kie", "Bal carries Kie to fleet")
        self.wrong(2, "Armybase holds", "army/x holds", "Army Mun holds", "fleets Bal holds", "armyMun holds")

    def test_several_provinces(self):
        self.wrong(3, "B holds", "army B holds", "K holds", "No holds", "Bu/n holds", "B/ holds", "B/x to Kie")
        self.wrong(
            3, "Mun to B", "Bal to Bu/n", "Mun supports K", "Mun supports army B to Kie", "Mun supports Kie to B",
        )
        self.wrong(3, "Bal carries B to Kie", "Bal carries Kie to N")

    def test_no_such_shore(self):
        self.wrong(
            4, "Spa/x holds", "Spa/sout holds", "Spa/southx holds", "Spa/South holds", "Spa/1 holds", "Mun/n holds",
        )
        self.wrong(
            4, "Bul/north holds", "Bal/n to Kie", "Nth to Spa/n", "Nth to Bul/north", "Bal to Kie/n", "Mun to Kie/n",
        )
        self.wrong(
            4, "Mun supports Kie/n", "Mun supports Spa/x", "Mun supports Spa/x to Kie", "Mun supports Kie to Spa/x",
        )
        self.wrong(4, "Bal carries Spa/x to Kie", "Bal carries Kie to Spa/x", "Bal carries Kie/n to Ber")

    def test_slashes(self):
        self.wrong(2, "/ holds", "/south holds", "//south holds", "/Spa/south holds", "Mun to /", "Mun supports /n")
        self.wrong(4, "Spa/ holds", "Mun/ holds", "Spa// holds", "Spa/south/ holds", "Spa/south/north holds")
        self.wrong(4, "Spa//south holds", "Nth to Spa/", "Bal to Kie/", "Mun to Kie/", "Nth to Spa/south/south")
        self.wrong(4, "Mun supports Kie/", "Bal carries Kie/ to Ber", "Bal carries Kie to Ber/")
        self.wrong(2, "Spa\\south holds", "X/south holds", "army / holds")


class UnitErrors(LinesTest):
    def test_no_unit_of_the_power(self):
        self.wrong(5, "Ber holds", "army Ber holds", "Gul holds", "fleet Gul to Spa", "Nwy holds", "Klc to Ber")
        self.wrong(5, "Bgd supports Mun", "Nor carries Kie to Ber")

    def test_another_kind(self):
        self.wrong(6, "fleet Mun holds", "army Bal holds", "army Spa holds", "army Spa/south holds", "fleet Bul holds")

    def test_a_shore_of_an_army(self):
        self.wrong(6, "Bul/n holds", "army Bul/n holds", "Bul/e holds", "fleet Bul/n holds", "Bul/w to Spa")

    def test_another_shore(self):
        self.wrong(6, "Spa/north holds", "fleet Spa/north holds", "army Spa/north holds", "Spa/north to Bul/n")

    def test_an_army_to_a_shore(self):
        self.wrong(8, "Mun to Spa/north", "army Mun to Spa/south", "Mun to Spa/north by water", "Bul to Spa/south")
        self.wrong(8, "Bul to Bul/n")


class TheFirstOneIsTold(LinesTest):
    def test_of_the_first_place(self):
        self.wrong(2, "Xyz", "Xyz/north", "army Xyz jumps", "Xyz to Xyz", "Xyz to B")
        self.wrong(3, "B", "B jumps", "B/x", "B to Xyz", "army B")
        # A shore that isn't there, where another power's unit or none stands, or one of the other kind.
        self.wrong(4, "Ber/x", "Ber/x holds", "Nwy/x to Xyz", "fleet Mun/x holds", "army Spa/x jumps", "Mun/x")

    def test_of_the_unit(self):
        self.wrong(
            5, "Ber", "Ber jumps", "fleet Ber holds", "army Gul", "army Gul to Xyz", "Ber holds Mun", "Nwy to Spa/x",
        )
        self.wrong(
            6, "fleet Mun", "army Bal jumps", "army Bal to", "fleet Mun to Xyz", "Spa/north", "Spa/north holds Mun",
        )
        self.wrong(6, "fleet Mun to Spa/north", "Spa/north to B", "army Nth to Spa", "army Nth to Spa by")

    def test_of_the_verb(self):
        self.wrong(1, "Mun goes Xyz", "Mun goes B", "Mun goes Spa/north", "Nth goes Spa", "Mun holds Xyz")

    def test_of_a_move(self):
        self.wrong(2, "Mun to Xyz by", "Bal to Xyz by land", "Mun to Xyz/north", "Mun to Xyz Kie")
        self.wrong(3, "Mun to B by", "Bal to B Kie", "Mun to Bu/n by")
        self.wrong(4, "Mun to Spa/x by", "Nth to Spa/x Kie", "Mun to Spa/x by water")
        self.wrong(1, "Mun to Spa/north by", "Mun to Spa/south Kie", "Nth to Spa by", "Spa to Bul by land")

    def test_of_help(self):
        self.wrong(2, "Mun supports Xyz from", "Mun supports Xyz to B", "Bal carries Xyz", "Bal carries Xyz to B")
        self.wrong(3, "Mun supports B from", "Mun supports B to Xyz", "Bal carries B", "Bal carries B to Xyz")
        self.wrong(
            4, "Mun supports Spa/x from", "Mun supports Spa/x to Xyz", "Bal carries Spa/x", "Bal carries Kie/x to B",
        )
        self.wrong(1, "Mun supports Kie from Xyz", "Mun supports Kie to Xyz by", "Mun supports Kie B")
        self.wrong(
            1, "Bal carries Kie from Xyz", "Bal carries Kie to Xyz by", "Bal carries Kie B",
            "Bal carries Kie to B to",
        )


if __name__ == "__main__":
    unittest.main()
