"""Why an order counts for nothing."""

import unittest

from call_lists import (
    ARMY, BAL, BER, BGD, BUL, COAST, FLEET, GUL, KIE, LAND, MUN, NOR, NTH, NWY, SEA, SPA, WORLD, CallsTest,
    answers_apart, done, gone, land, man, order, province, read, sea,
)


def why(units, line, p, extra=()):
    """Why of power 1's unit in p, after the line is read for it, and the extra calls behind it; none is refused."""
    calls = [call for call, _ in WORLD] + [man(*unit) for unit in units]
    answered = answers_apart(calls + [read(1, line)] + list(extra) + [order(p)])
    assert answered[len(calls)] == [0, 1 if line else 0], answered[len(calls)]
    assert min(answer[0] for answer in answered) >= 0
    return answered[-1][-1]


class WhyTest(CallsTest):
    def has_why(self, wanted, unit, *lines, others=()):
        fleet, p, shore = unit
        for line in lines:
            with self.subTest(line=line):
                self.assertEqual(why([(1, fleet, p, shore), *others], line, p), wanted)


class Holds(WhyTest):
    def test_it_counts(self):
        self.has_why(0, (ARMY, MUN, 0), "Mun holds", "")
        self.has_why(0, (FLEET, BAL, 0), "Bal holds", "")


class MovesOfArmies(WhyTest):
    def test_by_land_links(self):
        self.has_why(0, (ARMY, MUN, 0), "Mun to Kie", "Mun to Ber", "Mun to Bgd")
        self.has_why(0, (ARMY, KIE, 0), "Kie to Mun", "Kie to Ber", "Kie to Nor")
        self.has_why(0, (ARMY, BGD, 0), "Bgd to Mun", "Bgd to Spa")

    def test_to_its_own_province(self):
        self.has_why(1, (ARMY, MUN, 0), "Mun to Mun", "Mun to Mun by water")
        self.has_why(1, (ARMY, KIE, 0), "Kie to Kie", "Kie to Kie by water")
        self.has_why(1, (ARMY, SPA, 0), "Spa to Spa", "Spa to Spa by water")

    def test_no_land_link(self):
        self.has_why(2, (ARMY, MUN, 0), "Mun to Spa", "Mun to Klc", "Mun to Nwy")
        self.has_why(2, (ARMY, BGD, 0), "Bgd to Ber", "Bgd to Klc")
        self.has_why(2, (ARMY, KIE, 0), "Kie to Bgd", "Kie to Klc")

    def test_to_a_sea(self):
        self.has_why(2, (ARMY, KIE, 0), "Kie to Bal", "Kie to Nth", "Kie to Gul", "Kie to Bal by water")
        self.has_why(2, (ARMY, MUN, 0), "Mun to Bal", "Mun to Bal by water")

    def test_by_water_needs_two_coasts(self):
        self.has_why(2, (ARMY, MUN, 0), "Mun to Kie by water", "Mun to Bgd by water", "Mun to Spa by water")
        self.has_why(2, (ARMY, KIE, 0), "Kie to Mun by water", "Kie to Klc by water")
        self.has_why(0, (ARMY, KIE, 0), "Kie to Ber by water", "Kie to Spa by water", "Kie to Nwy by water")

    def test_between_coasts_without_by_water(self):
        # Two coasts are enough: no land link is asked for then.
        self.has_why(0, (ARMY, KIE, 0), "Kie to Spa", "Kie to Nwy", "Kie to Bul")
        self.has_why(0, (ARMY, BUL, 0), "Bul to Spa", "Bul to Nwy")


class MovesOfFleets(WhyTest):
    def test_by_sea_links(self):
        self.has_why(0, (FLEET, BAL, 0), "Bal to Kie", "Bal to Ber", "Bal to Nth")
        self.has_why(0, (FLEET, KIE, 0), "Kie to Bal", "Kie to Ber", "Kie to Nth")
        self.has_why(0, (FLEET, NTH, 0), "Nth to Spa/north", "Nth to Spa/south", "Nth to Bul", "Nth to Bul/s")
        self.has_why(0, (FLEET, GUL, 0), "Gul to Spa", "Gul to Bul/e", "Gul to Bul/w")

    def test_from_its_shore(self):
        self.has_why(0, (FLEET, SPA, 0), "Spa to Nth", "Spa to Bul/w", "Spa to Bul")
        self.has_why(2, (FLEET, SPA, 0), "Spa to Gul", "Spa to Bul/n", "Spa to Bul/e", "Spa to Bul/s")
        self.has_why(0, (FLEET, SPA, 1), "Spa to Nth", "Spa to Gul", "Spa to Bul/n", "Spa to Bul/e")
        self.has_why(2, (FLEET, SPA, 1), "Spa to Bul/s", "Spa to Bul/w")

    def test_to_another_shore(self):
        self.has_why(2, (FLEET, GUL, 0), "Gul to Spa/north", "Gul to Bul/n", "Gul to Bul/s")
        self.has_why(2, (FLEET, NTH, 0), "Nth to Bul/n", "Nth to Bul/e", "Nth to Bul/w")

    def test_to_its_own_province(self):
        self.has_why(1, (FLEET, BAL, 0), "Bal to Bal", "Bal to Bal by water")
        self.has_why(1, (FLEET, SPA, 1), "Spa to Spa", "Spa to Spa/north", "Spa to Spa/south", "Spa to Spa by water")

    def test_no_sea_link(self):
        self.has_why(2, (FLEET, BAL, 0), "Bal to Nwy", "Bal to Gul", "Bal to Bul", "Bal to Mun", "Bal to Spa/north")

    def test_a_land_link_is_none_for_a_fleet(self):
        self.has_why(2, (FLEET, KIE, 0), "Kie to Nor", "Kie to Mun")

    def test_by_water(self):
        self.has_why(2, (FLEET, BAL, 0), "Bal to Kie by water", "Bal to Nth by water", "Bal to Nwy by water")
        self.has_why(2, (FLEET, KIE, 0), "Kie to Ber by water", "Kie to Nwy by water")


class SupportsOfUnits(WhyTest):
    def test_it_counts(self):
        self.has_why(0, (ARMY, MUN, 0), "Mun supports Kie", others=[(1, FLEET, KIE, 0)])
        self.has_why(0, (ARMY, MUN, 0), "Mun supports Kie", others=[(4, ARMY, KIE, 0)])
        self.has_why(0, (FLEET, BAL, 0), "Bal supports Kie", others=[(4, ARMY, KIE, 0)])
        self.has_why(0, (ARMY, BGD, 0), "Bgd supports Spa", "Bgd supports Spa/north", others=[(4, FLEET, SPA, 1)])

    def test_any_shore_will_do(self):
        self.has_why(0, (FLEET, GUL, 0), "Gul supports Spa", others=[(1, FLEET, SPA, 0)])
        self.has_why(0, (FLEET, GUL, 0), "Gul supports Spa", others=[(1, ARMY, SPA, 0)])
        self.has_why(0, (FLEET, NTH, 0), "Nth supports Bul", others=[(1, FLEET, BUL, 0)])

    def test_its_own_province(self):
        self.has_why(4, (ARMY, MUN, 0), "Mun supports Mun")
        self.has_why(4, (FLEET, BAL, 0), "Bal supports Bal")
        self.has_why(4, (FLEET, SPA, 1), "Spa supports Spa", "Spa supports Spa/north")

    def test_out_of_reach(self):
        self.has_why(3, (ARMY, MUN, 0), "Mun supports Spa", others=[(1, ARMY, SPA, 0)])
        self.has_why(3, (FLEET, KIE, 0), "Kie supports Mun", others=[(1, ARMY, MUN, 0)])
        self.has_why(3, (FLEET, KIE, 0), "Kie supports Nor", others=[(1, ARMY, NOR, 0)])
        self.has_why(3, (ARMY, KIE, 0), "Kie supports Bal", others=[(1, FLEET, BAL, 0)])
        # Both are coasts, but to reach is to have a land link.
        self.has_why(3, (ARMY, KIE, 0), "Kie supports Nwy", others=[(1, ARMY, NWY, 0)])
        self.has_why(3, (FLEET, SPA, 0), "Spa supports Gul", others=[(1, FLEET, GUL, 0)])

    def test_nobody_there(self):
        self.has_why(7, (ARMY, MUN, 0), "Mun supports Kie", "Mun supports Bgd")
        self.has_why(7, (FLEET, BAL, 0), "Bal supports Kie", "Bal supports Nth")

    def test_reach_comes_before_nobody_there(self):
        self.has_why(3, (ARMY, MUN, 0), "Mun supports Spa", "Mun supports Bal")
        self.has_why(3, (FLEET, BAL, 0), "Bal supports Mun", "Bal supports Gul")


class SupportsOfMoves(WhyTest):
    def test_it_counts(self):
        self.has_why(0, (ARMY, MUN, 0), "Mun supports Kie to Ber", others=[(1, ARMY, KIE, 0)])
        self.has_why(0, (ARMY, MUN, 0), "Mun supports Bal to Ber", others=[(5, FLEET, BAL, 0)])
        # Only the province to which the move leads is to be reached; whether the move can be made isn't asked.
        self.has_why(0, (ARMY, MUN, 0), "Mun supports Nwy to Kie", others=[(1, ARMY, NWY, 0)])
        self.has_why(0, (FLEET, GUL, 0), "Gul supports Bal to Spa", "Gul supports Bal to Spa/north",
                     others=[(1, FLEET, BAL, 0)])

    def test_its_own_province_or_the_same(self):
        self.has_why(4, (ARMY, MUN, 0), "Mun supports Mun to Kie", "Mun supports Mun to Spa", "Mun supports Mun to Mun")
        self.has_why(4, (ARMY, MUN, 0), "Mun supports Kie to Mun", others=[(1, ARMY, KIE, 0)])
        self.has_why(4, (ARMY, MUN, 0), "Mun supports Kie to Kie", others=[(1, ARMY, KIE, 0)])
        self.has_why(4, (FLEET, SPA, 1), "Spa supports Spa/north to Gul", "Spa supports Gul to Spa/north")

    def test_out_of_reach(self):
        self.has_why(3, (ARMY, MUN, 0), "Mun supports Kie to Nor", others=[(1, ARMY, KIE, 0)])
        self.has_why(3, (ARMY, KIE, 0), "Kie supports Ber to Bal", others=[(1, FLEET, BER, 0)])
        self.has_why(3, (FLEET, KIE, 0), "Kie supports Ber to Mun", others=[(1, ARMY, BER, 0)])
        self.has_why(3, (FLEET, SPA, 0), "Spa supports Bul to Gul", others=[(1, FLEET, BUL, 1)])

    def test_nobody_there(self):
        self.has_why(7, (ARMY, MUN, 0), "Mun supports Kie to Ber", "Mun supports Spa to Bgd")
        self.has_why(7, (FLEET, BAL, 0), "Bal supports Kie to Ber", "Bal supports Mun to Kie")
        self.has_why(7, (ARMY, MUN, 0), "Mun supports Kie to Ber", others=[(1, ARMY, BER, 0)])

    def test_the_first_one_is_told(self):
        self.has_why(4, (ARMY, MUN, 0), "Mun supports Spa to Spa", "Mun supports Kie to Kie", "Mun supports Kie to Mun")
        self.has_why(3, (ARMY, MUN, 0), "Mun supports Kie to Spa", "Mun supports Nwy to Bal")


class Carrying(WhyTest):
    def test_it_counts(self):
        self.has_why(0, (FLEET, BAL, 0), "Bal carries Kie to Ber", others=[(1, ARMY, KIE, 0)])
        self.has_why(0, (FLEET, BAL, 0), "Bal carries Kie to Ber", others=[(6, ARMY, KIE, 0)])
        # Neither links nor the kinds of the provinces are asked.
        self.has_why(0, (FLEET, BAL, 0), "Bal carries Mun to Gul", "Bal carries Mun to Bal", others=[(6, ARMY, MUN, 0)])

    def test_no_fleet_in_a_sea(self):
        self.has_why(5, (ARMY, KIE, 0), "Kie carries Ber to Nor", others=[(1, ARMY, BER, 0)])
        self.has_why(5, (FLEET, KIE, 0), "Kie carries Ber to Nor", others=[(1, ARMY, BER, 0)])
        self.has_why(5, (ARMY, MUN, 0), "Mun carries Ber to Nor", others=[(1, ARMY, BER, 0)])

    def test_nowhere(self):
        self.has_why(6, (FLEET, BAL, 0), "Bal carries Kie to Kie", others=[(1, ARMY, KIE, 0)])
        self.has_why(6, (FLEET, BAL, 0), "Bal carries Spa/north to Spa/south", others=[(1, ARMY, SPA, 0)])

    def test_nobody_there(self):
        self.has_why(7, (FLEET, BAL, 0), "Bal carries Kie to Ber")
        self.has_why(7, (FLEET, BAL, 0), "Bal carries Kie to Ber", others=[(1, ARMY, BER, 0)])

    def test_a_fleet_carried(self):
        self.has_why(8, (FLEET, BAL, 0), "Bal carries Kie to Ber", others=[(1, FLEET, KIE, 0)])
        self.has_why(8, (FLEET, BAL, 0), "Bal carries army Kie to Ber", others=[(3, FLEET, KIE, 0)])
        self.has_why(8, (FLEET, BAL, 0), "Bal carries Bal to Ber")

    def test_the_first_one_is_told(self):
        self.has_why(5, (FLEET, KIE, 0), "Kie carries Ber to Ber", "Kie carries Ber to Nor", "Kie carries Kie to Nor")
        self.has_why(5, (FLEET, KIE, 0), "Kie carries Ber to Nor", others=[(1, FLEET, BER, 0)])
        self.has_why(6, (FLEET, BAL, 0), "Bal carries Kie to Kie", "Bal carries Bal to Bal")
        self.has_why(6, (FLEET, BAL, 0), "Bal carries Kie to Kie", others=[(1, FLEET, KIE, 0)])


class WhatItHangsOn(WhyTest):
    """Why is asked of the map and the units as they are when it is told."""

    def test_the_unit_in_p_gone_or_another(self):
        self.check(
            *WORLD, *done([man(1, ARMY, MUN, 0), man(1, FLEET, BAL, 0), man(1, FLEET, NTH, 0), man(3, ARMY, KIE, 0)]),
            (read(1, "Mun supports Kie\nBal carries Kie to Ber\nNth supports Kie to Nwy"), [0, 3]),
            (order(MUN), [1, 0, 0, 2, KIE, 0, 0, 0]), (order(BAL), [1, 1, 0, 4, KIE, BER, 0, 0]),
            (order(NTH), [1, 1, 0, 3, KIE, NWY, 0, 0]), (gone(KIE), 0),
            (order(MUN), [1, 0, 0, 2, KIE, 0, 0, 7]), (order(BAL), [1, 1, 0, 4, KIE, BER, 0, 7]),
            (order(NTH), [1, 1, 0, 3, KIE, NWY, 0, 7]), (man(5, FLEET, KIE, 0), 0),
            (order(MUN), [1, 0, 0, 2, KIE, 0, 0, 0]), (order(BAL), [1, 1, 0, 4, KIE, BER, 0, 8]),
            (order(NTH), [1, 1, 0, 3, KIE, NWY, 0, 0]), (gone(KIE), 0), (man(6, ARMY, KIE, 0), 0),
            (order(BAL), [1, 1, 0, 4, KIE, BER, 0, 0]),
        )

    def test_other_units_and_orders_change_nothing(self):
        unit = {MUN: (ARMY, 0), BAL: (FLEET, 0), SPA: (FLEET, 1)}
        lines = {
            MUN: ("Mun holds", "Mun to Kie", "Mun to Spa", "Mun to Mun", "Mun to Kie by water", "Mun supports Kie",
                  "Mun supports Mun", "Mun supports Spa", "Mun supports Bgd", "Mun supports Kie to Ber",
                  "Mun supports Bgd to Kie", "Mun supports Kie to Nor", "Mun supports Kie to Mun",
                  "Mun carries Kie to Ber"),
            BAL: ("Bal to Kie", "Bal to Nwy", "Bal to Kie by water", "Bal supports Kie", "Bal supports Kie to Ber",
                  "Bal carries Kie to Ber", "Bal carries Bgd to Ber", "Bal carries Kie to Kie",
                  "Bal carries Bal to Kie"),
            SPA: ("Spa to Gul", "Spa to Bul/w", "Spa to Spa", "Spa supports Gul", "Spa supports Bul/w"),
        }
        # Units elsewhere than in the provinces p of the lines, orders of others, and new provinces and links of these.
        extra = [
            man(4, ARMY, BER, 0), man(1, ARMY, NOR, 0), man(5, FLEET, NTH, 0), read(3, "Kie to Mun"),
            read(4, "Ber supports Mun"), gone(NWY), gone(NOR), province(SEA, "Skagerrak", "Ska"),
            province(LAND, "Tyrolia", "Tyr"), province(COAST, "Denmark", "Den", "n s"), land(13, MUN),
            sea(12, 0, BAL, 0), sea(14, 1, SPA, 1), man(1, FLEET, 14, 0),
        ]
        for p, told in lines.items():
            fleet, shore = unit[p]
            units = [(1, fleet, p, shore), (3, ARMY, KIE, 0), (4, ARMY, NWY, 0)]
            for line in told:
                with self.subTest(line=line):
                    self.assertEqual(why(units, line, p), why(units, line, p, extra))

    def test_the_map(self):
        self.check(
            *WORLD, *done([man(1, ARMY, MUN, 0), man(1, FLEET, BAL, 0), man(1, ARMY, SPA, 0)]),
            (read(1, "Mun to Spa\nBal to Bul/e\nSpa supports Mun"), [0, 3]), (order(MUN), [1, 0, 0, 1, SPA, 0, 0, 2]),
            (order(BAL), [1, 1, 0, 1, BUL, 1, 0, 2]), (order(SPA), [1, 0, 0, 2, MUN, 0, 0, 3]), (land(SPA, MUN), 0),
            (order(MUN), [1, 0, 0, 1, SPA, 0, 0, 0]), (order(SPA), [1, 0, 0, 2, MUN, 0, 0, 0]),
            (sea(BUL, 0, BAL, 0), 0), (order(BAL), [1, 1, 0, 1, BUL, 1, 0, 2]), (sea(BUL, 1, BAL, 0), 0),
            (order(BAL), [1, 1, 0, 1, BUL, 1, 0, 0]),
        )

    def test_links_lead_both_ways(self):
        for first, last in ((0, 1), (1, 0)):
            self.check(
                (province(COAST, "Xaa", "Xab"), 0), (province(COAST, "Yaa", "Yab"), 1),
                (province(LAND, "Zaa", "Zab"), 2), (land(2 * first, 2 * last), 0), (sea(first, 0, last, 0), 0),
                *done([man(1, FLEET, 0, 0), man(1, FLEET, 1, 0), man(1, ARMY, 2, 0)]),
                (read(1, "X to Y\nY to X\nZ to X"), [0, 3]),
                (order(0), [1, 1, 0, 1, 1, 0, 0, 0]), (order(1), [1, 1, 0, 1, 0, 0, 0, 0]),
                (order(2), [1, 0, 0, 1, 0, 0, 0, 0]),
            )


if __name__ == "__main__":
    unittest.main()
