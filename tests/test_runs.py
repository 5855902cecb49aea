"""filled and exchanged: the runs that a room makes."""

import copy
import unittest

from runsorts.errors import BadOrder, BadRoom, BadRows
from runsorts.runs import exchanged, filled
from samples import EVERY_KINDS, KINDS, ORDER, in_order, orders_of, plainly_exchanged, rows_of

SIZES = [1, 2, 3, 5, 8, 23, 24]
NUMBER = ("number",)
UP = [(0, "up")]


def plainly_filled(order, size, rows):
    told = list(enumerate(rows))
    return [in_order(order, told[at:at + size]) for at in range(0, len(told), size)]


def of_numbers(make, size, numbers):
    """Tell the runs of rows of one number, as these numbers alone."""
    runs = make(NUMBER, UP, size, [(number,) for number in numbers])
    return [[row[0] for _, row in run] for run in runs]


class Interface(unittest.TestCase):
    def test_the_functions_are_defined_here(self):
        self.assertEqual(filled.__module__, "runsorts.runs")
        self.assertEqual(exchanged.__module__, "runsorts.runs")

    def test_arguments_have_their_names(self):
        for make in (filled, exchanged):
            with self.subTest(make=make.__name__):
                told = make(kinds=KINDS, order=ORDER, size=2, rows=[(1, "a")])
                self.assertEqual(told, [[(0, (1, "a"))]])

    def test_kinds_of_values(self):
        for make in (filled, exchanged):
            with self.subTest(make=make.__name__):
                told = make(KINDS, ORDER, 2, rows_of(KINDS, 9, 1))
                self.assertIs(type(told), list)
                for run in told:
                    self.assertIs(type(run), list)
                    self.assertTrue(run)
                    for entry in run:
                        self.assertIs(type(entry), tuple)
                        self.assertEqual([type(part) for part in entry], [int, tuple])


class Filled(unittest.TestCase):
    def test_as_many_rows_as_the_room_holds(self):
        self.assertEqual(of_numbers(filled, 3, [5, 1, 3, 2, 9, 4, 8, 7]), [[1, 3, 5], [2, 4, 9], [7, 8]])
        self.assertEqual(of_numbers(filled, 2, [4, 3, 2, 1]), [[3, 4], [1, 2]])
        self.assertEqual(of_numbers(filled, 24, [4, 3, 2, 1]), [[1, 2, 3, 4]])
        self.assertEqual(of_numbers(filled, 1, [4, 3, 5]), [[4], [3], [5]])

    def test_every_order_size_and_number_of_rows(self):
        for kinds in EVERY_KINDS:
            for at, order in enumerate(orders_of(kinds)):
                size = SIZES[at % len(SIZES)]
                for many in (0, 1, size - 1, size, size + 1, 2 * size, 50, 119, 120):
                    rows = rows_of(kinds, many, at)
                    with self.subTest(kinds=kinds, order=order, size=size, many=many):
                        self.assertEqual(filled(kinds, order, size, rows), plainly_filled(order, size, rows))

    def test_like_rows_stay_as_they_came(self):
        rows = [(1, "b"), (1, "a"), (0, "c"), (1, "b")]
        self.assertEqual(filled(KINDS, [(0, "down")], 4, rows), [[(0, rows[0]), (1, rows[1]), (3, rows[3]),
                                                                  (2, rows[2])]])


class Exchanged(unittest.TestCase):
    def test_rows_that_are_ahead_wait_for_the_next_run(self):
        self.assertEqual(of_numbers(exchanged, 3, [5, 1, 3, 2, 9, 4, 8, 7]), [[1, 2, 3, 4, 5, 7, 8, 9]])
        self.assertEqual(of_numbers(exchanged, 2, [5, 6, 1, 7, 2, 3]), [[5, 6, 7], [1, 2, 3]])
        self.assertEqual(of_numbers(exchanged, 2, [9, 8, 7, 6, 5]), [[8, 9], [6, 7], [5]])
        self.assertEqual(of_numbers(exchanged, 1, [1, 2, 2, 1, 5, 4]), [[1, 2, 2], [1, 5], [4]])

    def test_rows_in_order_make_one_run(self):
        numbers = list(range(120))
        for size in SIZES:
            with self.subTest(size=size):
                self.assertEqual(of_numbers(exchanged, size, numbers), [numbers])

    def test_rows_turned_about_fill_the_room(self):
        numbers = list(range(120))
        for size in SIZES:
            with self.subTest(size=size):
                turned = numbers[::-1]
                self.assertEqual(of_numbers(exchanged, size, turned), of_numbers(filled, size, turned))

    def test_a_row_like_the_last_one_goes_into_the_run(self):
        rows = [(1, "b"), (1, "a"), (1, "c"), (1, "a")]
        for way in ("up", "down"):
            for size in (1, 2, 3, 4):
                with self.subTest(way=way, size=size):
                    self.assertEqual(exchanged(KINDS, [(0, way)], size, rows), [list(enumerate(rows))])

    def test_every_order_size_and_number_of_rows(self):
        for kinds in EVERY_KINDS:
            for at, order in enumerate(orders_of(kinds)):
                size = SIZES[at % len(SIZES)]
                for many in (0, 1, size - 1, size, size + 1, 2 * size, 50, 119, 120):
                    rows = rows_of(kinds, many, at)
                    with self.subTest(kinds=kinds, order=order, size=size, many=many):
                        self.assertEqual(exchanged(kinds, order, size, rows), plainly_exchanged(order, size, rows))

    def test_every_size(self):
        rows = rows_of(KINDS, 120, 77)
        for size in range(1, 25):
            with self.subTest(size=size):
                self.assertEqual(exchanged(KINDS, ORDER, size, rows), plainly_exchanged(ORDER, size, rows))


class Both(unittest.TestCase):
    def test_no_rows_make_no_runs(self):
        for make in (filled, exchanged):
            for size in (1, 24):
                with self.subTest(make=make.__name__, size=size):
                    self.assertEqual(make(KINDS, ORDER, size, []), [])

    def test_rooms_of_one_to_twenty_four_rows(self):
        for make in (filled, exchanged):
            for size in range(1, 25):
                with self.subTest(make=make.__name__, size=size):
                    self.assertEqual(make(KINDS, ORDER, size, [(1, "a")]), [[(0, (1, "a"))]])

    def test_rooms_that_there_are_not(self):
        for make in (filled, exchanged):
            for size in (0, -1, -24, 25, 26, 10 ** 19, True, False):
                for rows in ([], [(1, "a")], rows_of(KINDS, 120, 2)):
                    with self.subTest(make=make.__name__, size=size), self.assertRaises(BadRoom):
                        make(KINDS, ORDER, size, rows)

    def test_nothing_that_is_handed_in_is_changed_or_kept(self):
        for make in (filled, exchanged):
            with self.subTest(make=make.__name__):
                order, rows = list(ORDER), rows_of(KINDS, 40, 4)
                ahead = copy.deepcopy((order, rows))
                told = make(KINDS, order, 7, rows)
                self.assertEqual((order, rows), ahead)
                kept = copy.deepcopy(told)
                order.clear()
                rows.clear()
                self.assertEqual(told, kept)

    def test_nothing_is_changed_by_a_refusal(self):
        for make in (filled, exchanged):
            for refusal, order, size, more in ((BadRows, ORDER, 7, (1, "A")), (BadRoom, ORDER, 25, (1, "a")),
                                               (BadOrder, [(0, "up")] * 2, 7, (1, "a"))):
                with self.subTest(make=make.__name__, refusal=refusal.__name__):
                    handed = (list(order), rows_of(KINDS, 40, 4) + [more])
                    ahead = copy.deepcopy(handed)
                    with self.assertRaises(refusal):
                        make(KINDS, handed[0], size, handed[1])
                    self.assertEqual(handed, ahead)

    def test_what_is_told_is_new_each_time(self):
        for make in (filled, exchanged):
            with self.subTest(make=make.__name__):
                rows = rows_of(KINDS, 40, 4)
                told = make(KINDS, ORDER, 7, rows)
                kept = copy.deepcopy(told)
                told[0].clear()
                told[1].append("more")
                told.pop()
                self.assertEqual(make(KINDS, ORDER, 7, rows), kept)


if __name__ == "__main__":
    unittest.main()
