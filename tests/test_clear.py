"""The call clear."""

import unittest

from call_lists import (
    ARMY, COAST, FLEET, LAND, SEA, CallsTest, clear, done, gone, land, made, man, nth_province, pairs, province,
    provinces, sea,
)


class Clear(CallsTest):
    def test_on_nothing(self):
        self.check((clear(), 0), (clear(), 0))

    def test_provinces_are_gone(self):
        kiel = province(COAST, "Kiel", "Kie")
        self.check(
            (kiel, 0), (province(SEA, "Baltic", "Bal"), 1), (clear(), 0),
            (gone(0), -1), (man(0, ARMY, 0, 0), -1), (land(0, 1), -1), (sea(0, 0, 1, 0), -1),
            (kiel, 0), (gone(1), -1), (gone(0), -5),
        )

    def test_names_are_free_again(self):
        self.check(
            (province(COAST, "Kiel", "Kie"), 0), (province(COAST, "Kiel", "Xyz"), -4), (clear(), 0),
            (province(LAND, "Xyzzy", "Kie"), 0), (province(LAND, "Kiel", "Xyz"), 1),
        )

    def test_kinds_and_shores_are_new(self):
        self.check(
            (province(COAST, "Spain", "Spa", "north south"), 0), (man(0, FLEET, 0, 1), 0), (clear(), 0),
            (province(COAST, "Spain", "Spa"), 0), (man(0, FLEET, 0, 1), -1), (man(0, FLEET, 0, 0), 0), (clear(), 0),
            (province(SEA, "Spain", "Spa"), 0), (man(0, ARMY, 0, 0), -3), (man(0, FLEET, 0, 0), 0),
        )

    def test_links_are_gone(self):
        self.check(
            *made(provinces(2)), (land(0, 1), 0), (sea(0, 0, 1, 0), 0), (clear(), 0),
            *made(provinces(2)), (land(0, 1), 0), (sea(0, 0, 1, 0), 0), (land(1, 0), -4), (sea(1, 0, 0, 0), -4),
        )

    def test_units_are_gone(self):
        self.check(
            *made(provinces(2)), (man(0, ARMY, 0, 0), 0), (man(1, FLEET, 1, 0), 0), (clear(), 0),
            *made(provinces(2)), (gone(0), -5), (gone(1), -5), (man(2, ARMY, 1, 0), 0),
        )

    def test_full_of_provinces_and_units(self):
        units = [man(0, ARMY, p, 0) for p in range(24)]
        once = [
            *made(provinces(40)), (nth_province(40), -2), *done(units), (man(0, ARMY, 30, 0), -2),
        ]
        self.check(*once, (clear(), 0), *once)

    def test_full_of_land_links(self):
        links = [land(p, q) for p, q in pairs(40, 300)]
        self.check(
            *made(provinces(40)), *done(links), (land(39, 38), -2), (clear(), 0),
            *made(provinces(2)), (land(0, 1), 0),
        )

    def test_full_of_sea_links(self):
        links = [sea(p, 0, q, 0) for p, q in pairs(40, 300)]
        self.check(
            *made(provinces(40)), *done(links), (sea(39, 0, 38, 0), -2), (clear(), 0),
            *made(provinces(2)), (sea(0, 0, 1, 0), 0),
        )


if __name__ == "__main__":
    unittest.main()
