"""Kinds, rows and orders, as every part that is handed some takes and refuses them."""

import itertools
import unittest

from runsorts.errors import BadKinds, BadOrder, BadRoom, BadRows, BadRuns
from runsorts.merging import merged
from runsorts.rooms import Sieve
from runsorts.runs import exchanged, filled
from samples import (BAD_KINDS, BAD_ORDERS, BAD_ROWS, EVERY_KINDS, GOOD_ROWS, KINDS, NUMBERS, ORDER, WORDS, in_order,
                     orders_of, rows_of)


def sieved(kinds, order, rows):
    """Tell the rows as a Sieve lets them out."""
    sieve = Sieve(kinds, order)
    for row in rows:
        sieve.put(row)
    return [sieve.take() for _ in rows]


def through_filled(kinds, order, rows):
    return merged(kinds, order, filled(kinds, order, 5, rows))[0]


def through_exchanged(kinds, order, rows):
    return merged(kinds, order, exchanged(kinds, order, 5, rows))[0]


def through_merged(kinds, order, rows):
    return merged(kinds, order, [[told] for told in enumerate(rows)])[0]


SORTERS = [sieved, through_filled, through_exchanged, through_merged]

CALLS = [
    Sieve,
    lambda kinds, order: filled(kinds, order, 3, []),
    lambda kinds, order: exchanged(kinds, order, 3, []),
    lambda kinds, order: merged(kinds, order, []),
]


class Kinds(unittest.TestCase):
    def test_one_to_four_are_taken(self):
        for many in range(1, 5):
            for kinds in itertools.product(("number", "word"), repeat=many):
                for at, call in enumerate(CALLS):
                    with self.subTest(kinds=kinds, call=at):
                        call(kinds, [(many - 1, "up")])

    def test_others_are_refused(self):
        for kinds in BAD_KINDS:
            for at, call in enumerate(CALLS):
                with self.subTest(kinds=kinds, call=at), self.assertRaises(BadKinds):
                    call(kinds, [(0, "up")])


class Orders(unittest.TestCase):
    def test_others_are_refused(self):
        for order in BAD_ORDERS:
            for at, call in enumerate(CALLS):
                with self.subTest(order=order, call=at), self.assertRaises(BadOrder):
                    call(KINDS, order)

    def test_columns_are_those_of_the_kinds(self):
        for many in range(1, 5):
            kinds = ("word",) * many
            for at, call in enumerate(CALLS):
                with self.subTest(many=many, call=at):
                    call(kinds, [(column, "down") for column in range(many)])
                    with self.assertRaises(BadOrder):
                        call(kinds, [(many, "down")])

    def test_each_way_of_each_column_puts_rows_in_order(self):
        for kinds in EVERY_KINDS:
            rows = rows_of(kinds, 30, len(kinds))
            for order in orders_of(kinds):
                wanted = in_order(order, list(enumerate(rows)))
                for sort in SORTERS:
                    with self.subTest(kinds=kinds, order=order, sort=sort.__name__):
                        self.assertEqual(sort(kinds, order, rows), wanted)

    def test_numbers_ascend_as_numbers(self):
        rows = [(number,) for number in [10, 9, -1, -10, 999, -999, 0, 100]]
        wanted = [-999, -10, -1, 0, 9, 10, 100, 999]
        for sort in SORTERS:
            with self.subTest(sort=sort.__name__):
                self.assertEqual([row[0] for _, row in sort(("number",), [(0, "up")], rows)], wanted)
                self.assertEqual([row[0] for _, row in sort(("number",), [(0, "down")], rows)], wanted[::-1])

    def test_words_ascend_as_texts(self):
        rows = [(word,) for word in WORDS[::-1]]
        wanted = ["", "a", "aa", "ab", "abcdef", "abcdeg", "b", "ba", "z", "zz", "zzzzzz"]
        for sort in SORTERS:
            with self.subTest(sort=sort.__name__):
                self.assertEqual([row[0] for _, row in sort(("word",), [(0, "up")], rows)], wanted)
                self.assertEqual([row[0] for _, row in sort(("word",), [(0, "down")], rows)], wanted[::-1])

    def test_like_rows_stay_as_they_came_also_downwards(self):
        rows = [(1, "a"), (1, "b"), (0, "a"), (1, "a"), (0, "c"), (1, "c")]
        for sort in SORTERS:
            with self.subTest(sort=sort.__name__):
                self.assertEqual([told[0] for told in sort(KINDS, [(0, "up")], rows)], [2, 4, 0, 1, 3, 5])
                self.assertEqual([told[0] for told in sort(KINDS, [(0, "down")], rows)], [0, 1, 3, 5, 2, 4])

    def test_the_first_unlike_column_of_the_order_decides(self):
        rows = [(1, "b"), (2, "a"), (1, "a"), (2, "b")]
        for sort in SORTERS:
            with self.subTest(sort=sort.__name__):
                self.assertEqual([told[0] for told in sort(KINDS, [(0, "down"), (1, "up")], rows)], [1, 3, 2, 0])
                self.assertEqual([told[0] for told in sort(KINDS, [(1, "up"), (0, "down")], rows)], [1, 2, 3, 0])


class Rows(unittest.TestCase):
    def test_rows_at_the_edges_are_taken(self):
        for sort in SORTERS:
            with self.subTest(sort=sort.__name__):
                self.assertEqual(sort(KINDS, ORDER, GOOD_ROWS), in_order(ORDER, list(enumerate(GOOD_ROWS))))

    def test_all_values_in_one_column(self):
        for kind, values in (("number", NUMBERS), ("word", WORDS)):
            for sort in SORTERS:
                with self.subTest(kind=kind, sort=sort.__name__):
                    told = sort((kind,), [(0, "up")], [(value,) for value in values])
                    self.assertEqual([row[0] for _, row in told], sorted(values))

    def test_the_first_that_is_none_is_told(self):
        for bad in BAD_ROWS:
            for ahead in (0, 1, 7):
                rows = rows_of(KINDS, ahead, 5) + [bad, (1, "a"), (1000, "A")]
                for make in (filled, exchanged):
                    with self.subTest(bad=bad, ahead=ahead, make=make.__name__):
                        with self.assertRaises(BadRows) as caught:
                            make(KINDS, ORDER, 4, rows)
                        self.assertEqual(caught.exception.place, ahead)

    def test_the_first_too_many_is_told(self):
        rows = rows_of(KINDS, 120, 9)
        for make in (filled, exchanged):
            for more in ([(1, "a")], [(1, "A")], [(1, "a")] * 9, [(1, "a"), (1, "A")]):
                with self.subTest(make=make.__name__, more=more), self.assertRaises(BadRows) as caught:
                    make(KINDS, ORDER, 24, rows + more)
                self.assertEqual(caught.exception.place, 120)

    def test_one_that_is_none_ahead_of_the_first_too_many_is_told(self):
        rows = rows_of(KINDS, 119, 9) + [(1, "A"), (1, "a"), (1, "a")]
        for make in (filled, exchanged):
            with self.subTest(make=make.__name__), self.assertRaises(BadRows) as caught:
                make(KINDS, ORDER, 24, rows)
            self.assertEqual(caught.exception.place, 119)


class WhatIsHandedInFirst(unittest.TestCase):
    def test_kinds_go_ahead_of_all(self):
        for make in (filled, exchanged):
            for size in (4, 0):
                with self.subTest(make=make.__name__, size=size), self.assertRaises(BadKinds):
                    make((), [], size, [(1000,)])
        with self.assertRaises(BadKinds):
            merged((), [], [[(-1, ())]])
        with self.assertRaises(BadKinds):
            Sieve((), [])

    def test_the_order_goes_ahead_of_the_room(self):
        for make in (filled, exchanged):
            with self.subTest(make=make.__name__), self.assertRaises(BadOrder):
                make(KINDS, [], 25, [(1000,)])

    def test_the_room_goes_ahead_of_the_rows(self):
        for make in (filled, exchanged):
            with self.subTest(make=make.__name__), self.assertRaises(BadRoom):
                make(KINDS, ORDER, 25, [(1000,)])

    def test_the_order_goes_ahead_of_rows_and_runs(self):
        for make in (filled, exchanged):
            with self.subTest(make=make.__name__), self.assertRaises(BadOrder):
                make(KINDS, [(2, "up")], 4, [(1000,)])
        with self.assertRaises(BadOrder):
            merged(KINDS, [(2, "up")], [[(-1, ())]])

    def test_runs_alone(self):
        with self.assertRaises(BadRuns):
            merged(KINDS, ORDER, [[(-1, ())]])


if __name__ == "__main__":
    unittest.main()
