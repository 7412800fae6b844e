"""The call man."""

import unittest

from call_lists import (
    ARMY, COAST, FLEET, LAND, LEAST, MOST, SEA, CallsTest, done, gone, made, man, nth_province, province, provinces,
)

# 0 land, 1 coast, 2 sea, 3 coast of two shores, 4 coast of four.
MAP = made([
    province(LAND, "Munich", "Mun"), province(COAST, "Kiel", "Kie"), province(SEA, "Baltic", "Bal"),
    province(COAST, "Spain", "Spa", "north south"), province(COAST, "Bulgaria", "Bul", "n e s w"),
])
SHORES = (1, 1, 1, 2, 4)


class Man(CallsTest):
    def test_armies(self):
        self.check(*MAP, (man(0, ARMY, 0, 0), 0), (man(0, ARMY, 1, 0), 0), (man(6, ARMY, 3, 0), 0))

    def test_fleets(self):
        self.check(*MAP, (man(0, FLEET, 1, 0), 0), (man(3, FLEET, 2, 0), 0), (man(6, FLEET, 3, 0), 0))

    def test_fleets_at_every_shore(self):
        for p in (1, 2, 3, 4):
            for shore in range(SHORES[p]):
                self.check(*MAP, (man(1, FLEET, p, shore), 0), (gone(p), 0))

    def test_every_power(self):
        for power in range(7):
            self.check(*MAP, (man(power, ARMY, 0, 0), 0), (man(power, FLEET, 2, 0), 0))

    def test_power_out_of_range(self):
        for power in (-1, 7, 8, LEAST, MOST):
            self.check(
                *MAP, (man(power, ARMY, 0, 0), -1), (man(power, FLEET, 2, 0), -1), (man(power, ARMY, 2, 0), -1),
                (gone(0), -5), (gone(2), -5),
            )

    def test_fleet_out_of_range(self):
        for fleet in (-1, 2, 3, LEAST, MOST):
            self.check(
                *MAP, (man(0, fleet, 0, 0), -1), (man(0, fleet, 1, 0), -1), (man(0, fleet, 2, 0), -1), (gone(1), -5),
            )

    def test_province_out_of_range(self):
        for wrong in (-1, 5, 6, 40, LEAST, MOST):
            self.check(*MAP, (man(0, ARMY, wrong, 0), -1), (man(0, FLEET, wrong, 0), -1), (gone(4), -5))

    def test_shore_out_of_range(self):
        for p, shores in enumerate(SHORES):
            for wrong in (-1, shores, shores + 1, LEAST, MOST):
                self.check(*MAP, (man(0, ARMY, p, wrong), -1), (man(0, FLEET, p, wrong), -1), (gone(p), -5))

    def test_army_in_a_sea(self):
        self.check(*MAP, (man(0, ARMY, 2, 0), -3), (gone(2), -5), (man(0, FLEET, 2, 0), 0))

    def test_army_at_another_shore(self):
        self.check(
            *MAP, (man(0, ARMY, 3, 1), -3), (man(0, ARMY, 4, 1), -3), (man(0, ARMY, 4, 3), -3), (gone(3), -5),
            (gone(4), -5), (man(0, ARMY, 3, 0), 0), (man(0, FLEET, 4, 3), 0),
        )

    def test_fleet_on_land(self):
        self.check(*MAP, (man(0, FLEET, 0, 0), -3), (gone(0), -5), (man(0, ARMY, 0, 0), 0))

    def test_one_unit_in_a_province(self):
        self.check(
            *MAP, (man(0, ARMY, 1, 0), 0), (man(0, ARMY, 1, 0), -4), (man(1, FLEET, 1, 0), -4),
            (man(2, FLEET, 3, 0), 0), (man(2, FLEET, 3, 1), -4), (man(2, ARMY, 3, 0), -4), (gone(3), 0), (gone(3), -5),
        )

    def test_form_comes_before_taken(self):
        self.check(
            *MAP, (man(0, FLEET, 2, 0), 0), (man(0, ARMY, 2, 0), -3), (man(0, ARMY, 0, 0), 0),
            (man(0, FLEET, 0, 0), -3),
            (man(0, FLEET, 3, 1), 0), (man(0, ARMY, 3, 1), -3), (man(0, ARMY, 3, 0), -4),
        )

    def test_range_comes_before_all(self):
        self.check(
            *MAP, (man(0, ARMY, 0, 0), 0), (man(7, ARMY, 0, 0), -1), (man(0, 2, 0, 0), -1), (man(0, ARMY, 0, 1), -1),
            (man(0, FLEET, 0, 1), -1), (man(0, ARMY, 2, 1), -1), (man(7, FLEET, 0, 0), -1),
        )

    def test_a_new_one_in_its_place(self):
        self.check(
            *MAP, (man(0, ARMY, 3, 0), 0), (gone(3), 0), (man(1, FLEET, 3, 1), 0), (man(0, ARMY, 3, 0), -4),
            (gone(3), 0), (man(1, ARMY, 3, 0), 0),
        )

    def test_24_and_one_more(self):
        self.check(
            *made(provinces(26)), *done([man(p % 7, p % 2, p, 0) for p in range(24)]),
            (man(0, ARMY, 24, 0), -2), (man(6, FLEET, 25, 0), -2), (man(0, ARMY, 24, 0), -2), (gone(24), -5),
            (gone(7), 0), (man(0, ARMY, 24, 0), 0), (man(0, ARMY, 7, 0), -2), (gone(24), 0), (man(0, ARMY, 7, 0), 0),
        )

    def test_the_other_refusals_come_before_full(self):
        self.check(
            *made(provinces(24)), (nth_province(24, SEA), 24), (nth_province(25, LAND), 25),
            (nth_province(26, COAST, "n s"), 26), *done([man(0, ARMY, p, 0) for p in range(24)]),
            (man(7, ARMY, 25, 0), -1), (man(0, ARMY, 27, 0), -1), (man(0, ARMY, 26, 2), -1), (man(0, ARMY, 24, 0), -3),
            (man(0, FLEET, 25, 0), -3), (man(0, ARMY, 26, 1), -3), (man(0, ARMY, 0, 0), -4), (man(0, FLEET, 23, 0), -4),
            (man(0, FLEET, 24, 0), -2), (man(0, ARMY, 25, 0), -2), (man(0, FLEET, 26, 1), -2),
        )

    def test_refused_ones_are_not_counted(self):
        self.check(
            *made(provinces(26)), *done([man(0, FLEET, p, 0) for p in range(23)]), (man(0, FLEET, 0, 0), -4),
            (man(9, FLEET, 24, 0), -1), (man(0, FLEET, 24, 1), -1), (man(0, FLEET, 24, 0), 0),
            (man(0, FLEET, 25, 0), -2),
        )


if __name__ == "__main__":
    unittest.main()
