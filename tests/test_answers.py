"""The one list of calls, and the one list of answers."""

import unittest

from call_lists import (
    COAST, FLEET, SEA, CallsTest, clear, find, gone, joined, land, man, order, orders, printed, province, read, sea,
)
from orderlines.table import UnknownCall, answers

# Kiel, Berlin with two shores, and the Baltic, written out as they lie in the list.
KIEL = [1, 2, 4, 75, 105, 101, 108, 3, 75, 105, 101, 0]
BERLIN = [1, 2, 6, 66, 101, 114, 108, 105, 110, 3, 66, 101, 114, 5, 110, 32, 101, 32, 115]
BALTIC = [1, 1, 6, 66, 97, 108, 116, 105, 99, 3, 66, 97, 108, 0]


class WrittenOut(unittest.TestCase):
    def test_one_call(self):
        self.assertEqual(answers([0]), [1, 0])
        self.assertEqual(answers(KIEL), [1, 0])
        self.assertEqual(answers([5, 0]), [1, -1])

    def test_the_six_calls_that_build(self):
        berlin = BERLIN[:13] + [3, 110, 32, 101]
        calls = KIEL + berlin + BALTIC + [2, 0, 1, 3, 1, 1, 2, 0, 4, 6, 1, 1, 1, 5, 1, 5, 1, 0, 5, 1]
        self.assertEqual(answers(calls), [1, 0, 1, 1, 1, 2, 1, 0, 1, 0, 1, 0, 1, 0, 1, -5, 1, 0, 1, -1])

    def test_rows_are_as_long_as_told(self):
        # Three shores' names; were the row cut short, shore 2 would not be there.
        self.assertEqual(answers(BERLIN + BALTIC + [3, 0, 2, 1, 0, 3, 0, 3, 1, 0]), [1, 0, 1, 1, 1, 0, 1, -1])

    def test_refused_rows_are_passed_over_whole(self):
        fifty = [1, 0, 50] + [0] * 50 + [50] + [-1] * 50 + [50] + [5] * 50
        self.assertEqual(answers(fifty + KIEL + [0]), [1, -1, 1, 0, 1, 0])

    def test_empty_rows(self):
        self.assertEqual(answers([1, 0, 0, 0, 0] + KIEL), [1, -3, 1, 0])

    def test_answers_are_a_list_of_ints(self):
        given = answers(KIEL + BALTIC + [2, 0, 1, 4, 0, 0, 0, 0])
        self.assertIs(type(given), list)
        self.assertEqual({type(number) for number in given}, {int})

    def test_400_calls(self):
        self.assertEqual(answers([0] * 400), [1, 0] * 400)

    def test_16000_numbers(self):
        text = [40] + [97] * 40
        refused = [1, 0] + text * 3
        calls = refused * 128
        self.assertEqual(len(calls), 16000)
        self.assertEqual(answers(calls), [1, -3] * 128)

    def test_no_such_call(self):
        for number in (-1, 11, 12):
            with self.assertRaises(UnknownCall):
                answers([number])


class FirstCalls(CallsTest):
    def test_every_call_may_come_first(self):
        self.check((clear(), 0))
        self.check((province(COAST, "Kiel", "Kie"), 0))
        self.check((land(0, 0), -1))
        self.check((land(0, 1), -1))
        self.check((sea(0, 0, 0, 0), -1))
        self.check((sea(0, 0, 1, 0), -1))
        self.check((man(0, 0, 0, 0), -1))
        self.check((gone(0), -1))
        self.check((read(0, ""), [0, 0]))
        self.check((printed(0), [0]))
        self.check((order(0), -1))
        self.check((find("Kie"), [0]))
        self.check((orders(), [0]))


class NothingIsKept(CallsTest):
    def test_every_time_is_the_first(self):
        calls = joined([
            province(COAST, "Kiel", "Kie"), province(SEA, "Baltic", "Bal"), province(COAST, "Berlin", "Ber"),
            land(0, 2), sea(0, 0, 1, 0), man(3, FLEET, 1, 0), man(3, FLEET, 1, 0),
        ])
        first = answers(calls)
        self.assertEqual(first, [1, 0, 1, 1, 1, 2, 1, 0, 1, 0, 1, 0, 1, -4])
        for _ in range(3):
            self.assertEqual(answers(calls), first)
        self.assertEqual(answers([5, 1]), [1, -1])
        self.assertEqual(answers(calls), first)

    def test_an_answer_may_be_changed_by_who_has_it(self):
        first = answers(KIEL)
        first.append(7)
        self.assertEqual(answers(KIEL), [1, 0])

    def test_list_handed_in_stays(self):
        calls = BERLIN + BALTIC + [3, 0, 1, 1, 0, 1, 9, 1, 300, 0, 2, -1, -2, 4, 0, 0, 0, 0, 5, 0, 0]
        before = list(calls)
        answers(calls)
        self.assertEqual(calls, before)


if __name__ == "__main__":
    unittest.main()
