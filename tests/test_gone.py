"""The call gone."""

import unittest

from call_lists import (
    ARMY, COAST, FLEET, LAND, LEAST, MOST, SEA, CallsTest, done, gone, land, made, man, nth_province, province,
    provinces, sea,
)

MAP = made([
    province(LAND, "Munich", "Mun"), province(COAST, "Kiel", "Kie"), province(SEA, "Baltic", "Bal"),
    province(COAST, "Spain", "Spa", "north south"),
])


class Gone(CallsTest):
    def test_armies_and_fleets(self):
        self.check(
            *MAP, (man(0, ARMY, 0, 0), 0), (man(6, FLEET, 2, 0), 0), (man(2, FLEET, 3, 1), 0),
            (gone(2), 0), (gone(3), 0), (gone(0), 0),
        )

    def test_none_there(self):
        self.check(*MAP, (gone(0), -5), (gone(1), -5), (gone(2), -5), (gone(3), -5))

    def test_twice(self):
        self.check(*MAP, (man(0, ARMY, 1, 0), 0), (gone(1), 0), (gone(1), -5), (gone(1), -5))

    def test_out_of_range(self):
        for wrong in (-1, -4, 4, 5, 40, LEAST, MOST):
            self.check(
                *MAP, (man(0, ARMY, 0, 0), 0), (man(0, ARMY, 3, 0), 0), (gone(wrong), -1), (gone(0), 0), (gone(3), 0),
            )

    def test_range_grows_with_the_provinces(self):
        self.check(
            (gone(0), -1), (nth_province(0), 0), (gone(0), -5), (gone(1), -1), (nth_province(1), 1), (gone(1), -5),
        )

    def test_the_others_stay(self):
        self.check(
            *MAP, (man(0, ARMY, 0, 0), 0), (man(0, ARMY, 1, 0), 0), (man(0, FLEET, 2, 0), 0), (gone(1), 0),
            (man(0, ARMY, 0, 0), -4), (man(0, FLEET, 2, 0), -4), (man(5, FLEET, 1, 0), 0),
        )

    def test_refusals_change_nothing(self):
        self.check(*MAP, (man(0, ARMY, 0, 0), 0), (gone(1), -5), (gone(4), -1), (man(0, ARMY, 0, 0), -4), (gone(0), 0))

    def test_the_map_stays(self):
        self.check(
            *MAP, (land(0, 1), 0), (sea(1, 0, 2, 0), 0), (man(0, ARMY, 1, 0), 0), (gone(1), 0),
            (land(0, 1), -4), (sea(1, 0, 2, 0), -4), (province(LAND, "Kiel", "Xyz"), -4),
            (province(LAND, "Xyzzy", "Xyz"), 4),
        )

    def test_all_24(self):
        units = [man(0, ARMY, p, 0) for p in range(24)]
        leaving = [gone(p) for p in range(24)]
        self.check(
            *made(provinces(25)), *done(units), (man(0, ARMY, 24, 0), -2), *done(leaving),
            *[(gone(p), -5) for p in range(24)], *done(units), (man(0, ARMY, 24, 0), -2),
        )


if __name__ == "__main__":
    unittest.main()
