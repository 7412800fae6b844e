"""The call land."""

import unittest

from call_lists import (
    COAST, LAND, LEAST, MOST, SEA, CallsTest, done, land, made, nth_province, pairs, province, provinces, sea,
)

MAP = made([
    province(LAND, "Munich", "Mun"), province(COAST, "Kiel", "Kie"), province(SEA, "Baltic", "Bal"),
    province(COAST, "Spain", "Spa", "north south"), province(LAND, "Burgundy", "Bur"), province(SEA, "Gulf", "Gul"),
])
OUTSIDE = (-1, 6, 7, 40, LEAST, MOST)


class Land(CallsTest):
    def test_between_lands_and_coasts(self):
        self.check(*MAP, (land(0, 1), 0), (land(0, 4), 0), (land(1, 3), 0), (land(3, 4), 0), (land(4, 1), 0))

    def test_out_of_range(self):
        for wrong in OUTSIDE:
            self.check(*MAP, (land(wrong, 0), -1), (land(0, wrong), -1), (land(wrong, wrong), -1))

    def test_range_grows_with_the_provinces(self):
        self.check(
            (land(0, 0), -1), (nth_province(0), 0), (land(0, 0), -3), (land(0, 1), -1), (land(1, 0), -1),
            (nth_province(1), 1), (land(0, 1), 0), (land(1, 2), -1),
        )

    def test_range_comes_first(self):
        for wrong in OUTSIDE:
            self.check(*MAP, (land(2, wrong), -1), (land(wrong, 2), -1))

    def test_to_itself(self):
        self.check(*MAP, *[(land(p, p), -3) for p in range(6)])

    def test_sea(self):
        self.check(*MAP, (land(0, 2), -3), (land(2, 0), -3), (land(1, 5), -3), (land(5, 1), -3), (land(2, 5), -3))

    def test_twice(self):
        self.check(*MAP, (land(0, 1), 0), (land(0, 1), -4), (land(1, 0), -4), (land(0, 4), 0), (land(4, 0), -4))

    def test_the_other_way_first(self):
        self.check(*MAP, (land(4, 1), 0), (land(1, 4), -4), (land(4, 1), -4))

    def test_refusals_change_nothing(self):
        self.check(
            *MAP, (land(0, 6), -1), (land(0, 0), -3), (land(0, 2), -3), (land(0, 1), 0), (land(1, 0), -4),
            (land(0, 0), -3), (land(0, 2), -3), (land(0, 3), 0),
        )

    def test_sea_links_are_others(self):
        self.check(*MAP, (sea(1, 0, 3, 0), 0), (land(1, 3), 0), (sea(1, 0, 3, 1), 0), (land(3, 1), -4))

    def test_300_and_one_more(self):
        links = pairs(40, 301)
        extra = links.pop()
        self.check(
            *made(provinces(40)), *done([land(p, q) for p, q in links]),
            (land(*extra), -2), (land(extra[1], extra[0]), -2), (land(*extra), -2), (land(39, 38), -2),
            (sea(39, 0, 38, 0), 0),
        )

    def test_the_other_refusals_come_before_full(self):
        links = pairs(40, 300)
        self.check(
            *made(provinces(39)), (nth_province(39, SEA), 39), *done([land(p, q) for p, q in links]),
            (land(0, 40), -1), (land(-1, 0), -1), (land(38, 38), -3), (land(38, 39), -3), (land(39, 38), -3),
            (land(*links[0]), -4), (land(links[299][1], links[299][0]), -4), (land(38, 37), -2),
        )

    def test_refused_ones_are_not_counted(self):
        links = pairs(40, 300)
        last = links.pop()
        self.check(
            *made(provinces(40)), *done([land(p, q) for p, q in links]),
            (land(1, 0), -4), (land(0, 1), -4), (land(5, 5), -3), (land(5, 40), -1), (land(*last), 0),
            (land(39, 0), -2),
        )


if __name__ == "__main__":
    unittest.main()
