"""The calls order and orders."""

import unittest

from call_lists import (
    ARMY, BAL, BER, BGD, BUL, FLEET, GUL, KIE, LEAST, MOST, MUN, NOR, NTH, NWY, SPA, WORLD, CallsTest, clear, done,
    gone, man, nth_province, order, orders, read,
)

PLACED = WORLD + done([
    man(6, FLEET, NTH, 0), man(2, ARMY, MUN, 0), man(0, FLEET, SPA, 1), man(2, FLEET, KIE, 0), man(2, ARMY, BUL, 0),
])


class Order(CallsTest):
    def test_units_that_hold(self):
        self.check(
            *PLACED, (order(MUN), [2, 0, 0, 0, 0, 0, 0, 0]), (order(KIE), [2, 1, 0, 0, 0, 0, 0, 0]),
            (order(SPA), [0, 1, 1, 0, 0, 0, 0, 0]), (order(BUL), [2, 0, 0, 0, 0, 0, 0, 0]),
            (order(NTH), [6, 1, 0, 0, 0, 0, 0, 0]),
        )

    def test_each_kind_of_order(self):
        self.check(
            *PLACED, (read(2, "Mun to Bgd\nKie supports Mun to Ber\nBul to Spa by water"), [0, 3]),
            (order(MUN), [2, 0, 0, 1, BGD, 0, 0, 0]), (order(KIE), [2, 1, 0, 3, MUN, BER, 0, 0]),
            (order(BUL), [2, 0, 0, 1, SPA, 0, 1, 0]), (read(6, "Nth carries Bul to Nwy"), [0, 1]),
            (order(NTH), [6, 1, 0, 4, BUL, NWY, 0, 0]), (read(0, "Spa supports Bul"), [0, 1]),
            (order(SPA), [0, 1, 1, 2, BUL, 0, 0, 0]), (read(0, "Spa to Bul/e"), [0, 1]),
            (order(SPA), [0, 1, 1, 1, BUL, 1, 0, 0]), (read(0, "Spa to Bul/s by water"), [0, 1]),
            (order(SPA), [0, 1, 1, 1, BUL, 2, 1, 2]),
        )

    def test_every_shore_of_a_fleet(self):
        for shore in range(4):
            self.check(*WORLD, (man(5, FLEET, BUL, shore), 0), (order(BUL), [5, 1, shore, 0, 0, 0, 0, 0]))

    def test_no_unit(self):
        self.check(*PLACED, *[(order(p), -5) for p in (BAL, GUL, BER, BGD, NWY, NOR)])
        self.check(*PLACED, (gone(MUN), 0), (order(MUN), -5), (man(1, ARMY, MUN, 0), 0), (order(MUN), [1] + [0] * 7))

    def test_provinces_out_of_range(self):
        for wrong in (-1, -12, 12, 13, 40, LEAST, MOST):
            self.check(*PLACED, (order(wrong), -1), (order(MUN), [2, 0, 0, 0, 0, 0, 0, 0]))

    def test_range_grows_with_the_provinces(self):
        self.check(
            (order(0), -1), (order(-1), -1), (nth_province(0), 0), (order(0), -5), (order(1), -1),
            (nth_province(1), 1), (order(1), -5), (order(2), -1), (clear(), 0), (order(0), -1),
        )

    def test_it_changes_nothing(self):
        self.check(*PLACED, (read(2, "Mun to Bgd"), [0, 1]), *[(order(MUN), [2, 0, 0, 1, BGD, 0, 0, 0])] * 3)


class Orders(CallsTest):
    def test_none(self):
        self.check((orders(), [0]), *WORLD, (orders(), [0]))

    def test_in_the_order_of_provinces(self):
        self.check(
            *PLACED, (orders(), [5, *[number for p in (MUN, KIE, SPA, BUL, NTH) for number in (p, 0, 0, 0, 0, 0)]]),
        )

    def test_orders_of_every_power(self):
        self.check(
            *PLACED, (read(2, "Mun to Mun\nKie to Nth\nBul supports Nwy"), [0, 3]),
            (read(0, "Spa to Gul by water"), [0, 1]), (read(6, "Nth carries Mun to Nwy"), [0, 1]),
            (orders(), [
                5, MUN, 1, MUN, 0, 0, 1, KIE, 1, NTH, 0, 0, 0, SPA, 1, GUL, 0, 1, 2, BUL, 2, NWY, 0, 0, 3,
                NTH, 4, MUN, NWY, 0, 0,
            ]),
        )

    def test_units_come_and_go(self):
        self.check(
            *WORLD, (man(1, ARMY, BER, 0), 0), (orders(), [1, BER, 0, 0, 0, 0, 0]), (man(3, ARMY, MUN, 0), 0),
            (orders(), [2, MUN, 0, 0, 0, 0, 0, BER, 0, 0, 0, 0, 0]), (read(1, "Ber supports Mun"), [0, 1]),
            (orders(), [2, MUN, 0, 0, 0, 0, 0, BER, 2, MUN, 0, 0, 0]), (gone(MUN), 0),
            (orders(), [1, BER, 2, MUN, 0, 0, 7]), (gone(BER), 0), (orders(), [0]), (man(1, ARMY, BER, 0), 0),
            (orders(), [1, BER, 0, 0, 0, 0, 0]), (clear(), 0), (orders(), [0]),
        )

    def test_24(self):
        units = [man(p % 7, ARMY, p, 0) for p in range(23, -1, -1)]
        self.check(
            *[(nth_province(p), p) for p in range(26)], *done(units), (man(0, ARMY, 25, 0), -2),
            (orders(), [24, *[number for p in range(24) for number in (p, 0, 0, 0, 0, 0)]]),
        )


if __name__ == "__main__":
    unittest.main()
