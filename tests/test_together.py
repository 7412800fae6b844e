"""All calls together in one list."""

import unittest

from call_lists import (
    ARMY, COAST, FLEET, LAND, LEAST, MOST, SEA, CallsTest, clear, find, gone, land, man, order, orders, printed,
    province, read, sea, text_answer,
)
from orderlines.table import answers

KIEL, BALTIC, BERLIN, SPAIN, MUNICH = range(5)
BUILT = (
    (province(COAST, "Kiel", "Kie"), KIEL), (province(SEA, "Baltic", "Bal"), BALTIC),
    (province(COAST, "Berlin", "Ber"), BERLIN), (province(COAST, "Spain", "Spa", "nc sc"), SPAIN),
    (province(LAND, "Munich", "Mun"), MUNICH), (land(KIEL, BERLIN), 0), (land(MUNICH, KIEL), 0),
    (sea(KIEL, 0, BALTIC, 0), 0), (sea(BALTIC, 0, BERLIN, 0), 0), (sea(SPAIN, 1, BALTIC, 0), 0),
)


class WrittenOut(unittest.TestCase):
    """The numbers just as they lie in the lists."""

    KIE = [1, 2, 4, 75, 105, 101, 108, 3, 75, 105, 101, 0]
    BAL = [1, 1, 6, 66, 97, 108, 116, 105, 99, 3, 66, 97, 108, 0]
    UNIT = [3, 0, 0, 1, 0, 4, 5, 1, 1, 0]

    def test_each_call_alone(self):
        self.assertEqual(answers([6, 0, 0]), [2, 0, 0])
        self.assertEqual(answers([7, 0]), [1, 0])
        self.assertEqual(answers([8, 0]), [1, -1])
        self.assertEqual(answers([9, 0]), [1, 0])
        self.assertEqual(answers([10]), [1, 0])

    def test_all_five(self):
        # Bal to Kie
        text = [66, 97, 108, 32, 116, 111, 32, 75, 105, 101]
        line = [102, 108, 101, 101, 116, 32] + text + [10]
        calls = self.KIE + self.BAL + self.UNIT + [6, 5, 10] + text + [7, 5, 8, 1, 9, 1, 75, 10, 8, 0, 6, 5, 1, 75]
        self.assertEqual(answers(calls), [
            1, 0, 1, 1, 1, 0, 1, 0, 2, 0, 1, 18, 17, *line, 8, 5, 1, 0, 1, 0, 0, 0, 0, 2, 1, 0, 7, 1, 1, 1, 0, 0, 0, 0,
            1, -5, 4, 1, 1, 1, 5,
        ])

    def test_refused_rows_are_passed_over_whole(self):
        calls = [6, 0, 2100] + [10] * 2100 + [9, 50] + [7] * 50 + [6, 9, 2, 10, 10] + [10]
        self.assertEqual(answers(calls), [1, -1, 1, -1, 1, -1, 1, 0])

    def test_answers_are_a_list_of_ints(self):
        given = answers(self.KIE + self.BAL + self.UNIT + [6, 5, 1, 35, 7, 5, 8, 1, 9, 1, 75, 10])
        self.assertIs(type(given), list)
        self.assertEqual({type(number) for number in given}, {int})


class Together(CallsTest):
    def test_orders_read_and_told(self):
        self.check(
            *BUILT, (man(1, ARMY, KIEL, 0), 0), (man(1, FLEET, BALTIC, 0), 0), (man(2, FLEET, SPAIN, 1), 0),
            (read(1, "Kiel to Ber by water\nBal carries Kie to Ber"), [0, 2]), (read(2, "S to Baltic"), [0, 1]),
            (order(KIEL), [1, 0, 0, 1, BERLIN, 0, 1, 0]), (order(BALTIC), [1, 1, 0, 4, KIEL, BERLIN, 0, 0]),
            (order(SPAIN), [2, 1, 1, 1, BALTIC, 0, 0, 0]),
            (orders(), [3, KIEL, 1, BERLIN, 0, 1, 0, BALTIC, 4, KIEL, BERLIN, 0, 0, SPAIN, 1, BALTIC, 0, 0, 0]),
            (printed(1), text_answer("army Kie to Ber by water\nfleet Bal carries Kie to Ber\n")),
            (printed(2), text_answer("fleet Spa/sc to Bal\n")), (find("B"), [2, BALTIC, BERLIN]),
        )

    def test_units_gone_and_new_ones(self):
        self.check(
            *BUILT, (man(1, ARMY, KIEL, 0), 0), (man(1, FLEET, BALTIC, 0), 0),
            (read(1, "Kie to Ber by water\nBal carries Kie to Ber"), [0, 2]), (gone(KIEL), 0), (order(KIEL), -5),
            (printed(1), text_answer("fleet Bal carries Kie to Ber\n")), (orders(), [1, BALTIC, 4, KIEL, BERLIN, 0, 7]),
            (man(1, FLEET, KIEL, 0), 0), (order(KIEL), [1, 1, 0, 0, 0, 0, 0, 0]),
            (orders(), [2, KIEL, 0, 0, 0, 0, 0, BALTIC, 4, KIEL, BERLIN, 0, 8]),
            (printed(1), text_answer("fleet Kie holds\nfleet Bal carries Kie to Ber\n")),
            (gone(BALTIC), 0), (man(6, FLEET, BALTIC, 0), 0), (orders(), [2, KIEL, *[0] * 5, BALTIC, *[0] * 5]),
            (printed(6), text_answer("fleet Bal holds\n")),
        )

    def test_clear_in_the_middle(self):
        played = (
            (man(1, FLEET, BALTIC, 0), 0), (orders(), [1, BALTIC, 0, 0, 0, 0, 0]), (read(1, "Bal to Spa"), [0, 1]),
            (order(BALTIC), [1, 1, 0, 1, SPAIN, 1, 0, 0]), (printed(1), text_answer("fleet Bal to Spa/sc\n")),
        )
        self.check(
            *BUILT, *played, (clear(), 0), (orders(), [0]), (printed(1), [0]), (order(BALTIC), -1), (find("Bal"), [0]),
            (read(1, "Bal to Spa"), [1, 1, 1, 2]), (read(1, ""), [0, 0]), *BUILT, *played,
        )

    def test_a_later_read_in_the_place_of_an_earlier_one(self):
        self.check(
            *BUILT, (man(1, ARMY, KIEL, 0), 0), (man(1, ARMY, MUNICH, 0), 0),
            (read(1, "Kie to Ber\nMun to Kie"), [0, 2]),
            (printed(1), text_answer("army Kie to Ber\narmy Mun to Kie\n")), (read(1, "Mun supports Kie"), [0, 1]),
            (printed(1), text_answer("army Kie holds\narmy Mun supports Kie\n")), (read(1, "Kie jumps"), [1, 1, 1, 1]),
            (printed(1), text_answer("army Kie holds\narmy Mun supports Kie\n")), (read(1, "\n"), [0, 0]),
            (printed(1), text_answer("army Kie holds\narmy Mun holds\n")),
        )

    def test_refusals_change_nothing(self):
        told = [1, KIEL, 1, BERLIN, 0, 0, 0]
        self.check(
            *BUILT, (man(1, ARMY, KIEL, 0), 0), (read(1, "Kie to Ber"), [0, 1]), (orders(), told),
            (read(7, ""), -1), (read(1, "x" * 2001), -1), (read(-1, "Kie holds"), -1), (printed(7), -1),
            (printed(LEAST), -1), (order(5), -1), (order(MOST), -1), (order(BERLIN), -5), (find("K" * 41), -1),
            (find([-1]), -1), (man(1, ARMY, KIEL, 0), -4), (gone(BERLIN), -5), (land(KIEL, BERLIN), -4),
            (orders(), told),
        )

    def test_the_longest_lists(self):
        text = "#" * 1990
        read_calls = [(read(0, text), [0, 0])] * 8
        self.check(*read_calls, *[(orders(), [0])] * 56)
        self.check(*[(orders(), [0])] * 400)


class NothingIsKept(unittest.TestCase):
    def test_every_time_is_the_first(self):
        calls = [number for call, _ in BUILT for number in call]
        calls += man(1, ARMY, KIEL, 0) + orders() + read(1, "Kie to Ber") + orders() + printed(1)
        as_it_was = list(calls)
        first = answers(calls)
        for _ in range(3):
            self.assertEqual(answers(calls), first)
        self.assertEqual(answers(orders() + printed(1) + find("Kie")), [1, 0, 1, 0, 1, 0])
        self.assertEqual(calls, as_it_was)

    def test_an_answer_may_be_changed_by_who_has_it(self):
        calls = [number for call, _ in BUILT for number in call] + man(1, ARMY, KIEL, 0) + orders()
        first = answers(calls)
        kept = list(first)
        first.clear()
        self.assertEqual(answers(calls), kept)


if __name__ == "__main__":
    unittest.main()
