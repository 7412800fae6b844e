"""The call sea."""

import unittest

from call_lists import (
    COAST, LAND, LEAST, MOST, SEA, CallsTest, done, land, made, nth_province, pairs, province, provinces, sea,
)

# 0 land, 1 coast, 2 sea, 3 coast of two shores, 4 coast of four, 5 sea, 6 coast of three.
MAP = made([
    province(LAND, "Munich", "Mun"), province(COAST, "Kiel", "Kie"), province(SEA, "Baltic", "Bal"),
    province(COAST, "Spain", "Spa", "north south"), province(COAST, "Bulgaria", "Bul", "n e s w"),
    province(SEA, "Gulf", "Gul"), province(COAST, "Finland", "Fin", "x y z"),
])
SHORES = (1, 1, 1, 2, 4, 1, 3)
OUTSIDE = (-1, 7, 8, 40, LEAST, MOST)


class Sea(CallsTest):
    def test_between_seas_and_coasts(self):
        self.check(
            *MAP, (sea(2, 0, 5, 0), 0), (sea(1, 0, 2, 0), 0), (sea(5, 0, 1, 0), 0), (sea(1, 0, 3, 1), 0),
            (sea(4, 3, 2, 0), 0), (sea(3, 0, 4, 2), 0),
        )

    def test_provinces_out_of_range(self):
        for wrong in OUTSIDE:
            self.check(*MAP, (sea(wrong, 0, 2, 0), -1), (sea(2, 0, wrong, 0), -1), (sea(wrong, 0, wrong, 0), -1))

    def test_shores_out_of_range(self):
        for p, shores in enumerate(SHORES):
            for wrong in (-1, shores, shores + 1, LEAST, MOST):
                self.check(*MAP, (sea(p, wrong, 5, 0), -1), (sea(5, 0, p, wrong), -1), (sea(p, wrong, p, wrong), -1))

    def test_last_shores(self):
        self.check(*MAP, *[(sea(p, SHORES[p] - 1, 2, 0), 0) for p in (1, 3, 4, 5, 6)])

    def test_each_shore_belongs_to_its_own_province(self):
        self.check(*MAP, (sea(3, 3, 4, 0), -1), (sea(3, 0, 4, 3), 0), (sea(4, 3, 3, 1), 0), (sea(4, 0, 3, 3), -1))

    def test_range_grows_with_the_provinces(self):
        self.check(
            (sea(0, 0, 0, 0), -1), (nth_province(0), 0), (sea(0, 0, 0, 0), -3), (sea(0, 0, 1, 0), -1),
            (nth_province(1), 1), (sea(0, 0, 1, 0), 0), (sea(1, 0, 2, 0), -1),
        )

    def test_range_comes_first(self):
        self.check(
            *MAP, (sea(0, 1, 2, 0), -1), (sea(2, 0, 0, 1), -1), (sea(0, 0, 7, 0), -1), (sea(7, 0, 0, 0), -1),
            (sea(3, 0, 3, 2), -1), (sea(3, 2, 3, 0), -1), (sea(0, -1, 0, 0), -1),
        )

    def test_to_itself(self):
        self.check(*MAP, *[(sea(p, 0, p, 0), -3) for p in range(7)])
        self.check(*MAP, (sea(3, 0, 3, 1), -3), (sea(3, 1, 3, 0), -3), (sea(4, 3, 4, 2), -3))

    def test_land(self):
        self.check(*MAP, (sea(0, 0, 1, 0), -3), (sea(1, 0, 0, 0), -3), (sea(2, 0, 0, 0), -3), (sea(0, 0, 4, 3), -3))

    def test_twice(self):
        self.check(
            *MAP, (sea(1, 0, 2, 0), 0), (sea(1, 0, 2, 0), -4), (sea(2, 0, 1, 0), -4),
            (sea(3, 1, 2, 0), 0), (sea(2, 0, 3, 1), -4), (sea(3, 1, 2, 0), -4),
        )

    def test_several_between_two_provinces(self):
        places = [(s, t) for s in range(2) for t in range(4)]
        self.check(
            *MAP, *done([sea(3, s, 4, t) for s, t in places]), *[(sea(4, t, 3, s), -4) for s, t in places],
            *[(sea(3, s, 4, t), -4) for s, t in places],
        )

    def test_shores_told_the_other_way_round_are_others(self):
        self.check(
            *MAP, (sea(3, 0, 4, 1), 0), (sea(3, 1, 4, 0), 0), (sea(4, 1, 3, 0), -4), (sea(4, 0, 3, 1), -4),
            (sea(4, 0, 3, 0), 0), (sea(3, 0, 4, 0), -4),
        )

    def test_refusals_change_nothing(self):
        self.check(
            *MAP, (sea(3, 2, 2, 0), -1), (sea(3, 0, 3, 1), -3), (sea(0, 0, 2, 0), -3), (sea(3, 0, 2, 0), 0),
            (sea(2, 0, 3, 0), -4), (sea(3, 1, 2, 0), 0), (sea(3, 0, 3, 1), -3), (sea(0, 0, 2, 0), -3),
        )

    def test_land_links_are_others(self):
        self.check(*MAP, (land(1, 3), 0), (sea(1, 0, 3, 0), 0), (land(3, 1), -4), (sea(3, 0, 1, 0), -4))

    def test_300_and_one_more(self):
        links = pairs(40, 301)
        extra = links.pop()
        p, q = extra
        self.check(
            *made(provinces(40)), *done([sea(one, 0, other, 0) for one, other in links]),
            (sea(p, 0, q, 0), -2), (sea(q, 0, p, 0), -2), (sea(p, 0, q, 0), -2), (land(p, q), 0),
        )

    def test_300_at_several_shores(self):
        places = [(p, s, q, t) for p in range(8) for q in range(p) for s in range(4) for t in range(4)]
        self.check(
            *made(provinces(8, COAST, "n e s w")), *done([sea(*place) for place in places[:300]]),
            (sea(*places[300]), -2), (sea(*places[299]), -4), (sea(*places[301]), -2),
        )

    def test_the_other_refusals_come_before_full(self):
        links = pairs(40, 300)
        self.check(
            *made(provinces(39)), (nth_province(39, LAND), 39), *done([sea(p, 0, q, 0) for p, q in links]),
            (sea(0, 0, 40, 0), -1), (sea(0, 1, 1, 0), -1), (sea(38, 0, 38, 0), -3), (sea(38, 0, 39, 0), -3),
            (sea(39, 0, 38, 0), -3), (sea(1, 0, 0, 0), -4), (sea(0, 0, 1, 0), -4), (sea(38, 0, 37, 0), -2),
        )

    def test_refused_ones_are_not_counted(self):
        links = pairs(40, 300)
        p, q = links.pop()
        self.check(
            *made(provinces(40)), *done([sea(one, 0, other, 0) for one, other in links]),
            (sea(1, 0, 0, 0), -4), (sea(0, 0, 1, 0), -4), (sea(5, 0, 5, 0), -3), (sea(5, 1, 6, 0), -1),
            (sea(p, 0, q, 0), 0), (sea(39, 0, 0, 0), -2),
        )


if __name__ == "__main__":
    unittest.main()
