"""merged: all rows in order, the looks that took, and the runs that it refuses."""

import copy
import unittest

from runsorts.errors import BadRuns
from runsorts.merging import merged
from runsorts.runs import exchanged, filled
from samples import (BAD_ROWS, EVERY_KINDS, KINDS, ORDER, allowed_looks, cut, in_order, needed_looks, orders_of,
                     rows_of)

NUMBER = ("number",)
UP = [(0, "up")]
MOST = 10 ** 20 - 1


def runs_of(numbers):
    """Tell runs of rows of one number each, the rows numbered as they stand."""
    runs, came = [], 0
    for part in numbers:
        runs.append([(came + at, (number,)) for at, number in enumerate(part)])
        came += len(part)
    return runs


class Case(unittest.TestCase):
    def check(self, kinds, order, runs):
        """Looks that what is told is right, and takes no more looks than are allowed."""
        told, looks = merged(kinds, order, runs)
        self.assertEqual(told, in_order(order, [entry for run in runs for entry in run]))
        self.assertLessEqual(looks, allowed_looks(runs))
        self.assertGreaterEqual(looks, needed_looks(runs, told))

    def refused(self, kinds, order, runs, number):
        with self.assertRaises(BadRuns) as caught:
            merged(kinds, order, runs)
        self.assertEqual(caught.exception.number, number)


class Interface(Case):
    def test_the_function_is_defined_here(self):
        self.assertEqual(merged.__module__, "runsorts.merging")

    def test_arguments_have_their_names(self):
        self.assertEqual(merged(kinds=KINDS, order=ORDER, runs=[[(4, (1, "a"))]]), ([(4, (1, "a"))], 0))

    def test_kinds_of_values(self):
        told = merged(NUMBER, UP, runs_of([[1, 3], [2]]))
        self.assertIs(type(told), tuple)
        self.assertEqual([type(part) for part in told], [list, int])
        for entry in told[0]:
            self.assertIs(type(entry), tuple)
            self.assertEqual([type(part) for part in entry], [int, tuple])


class Merged(Case):
    def test_no_runs_and_one_run_take_no_look(self):
        self.assertEqual(merged(NUMBER, UP, []), ([], 0))
        self.assertEqual(merged(NUMBER, UP, [[]]), ([], 0))
        run = [(at, (at,)) for at in range(120)]
        self.assertEqual(merged(NUMBER, UP, [run]), (run, 0))

    def test_two_runs_of_a_row_take_one_look(self):
        for one, other in ((1, 2), (2, 1), (1, 1)):
            with self.subTest(one=one, other=other):
                told, looks = merged(NUMBER, UP, [[(0, (one,))], [(1, (other,))]])
                self.assertEqual([row[0] for _, row in told], sorted([one, other]))
                self.assertEqual(looks, 1)

    def test_empty_runs(self):
        for runs in ([[], []], [[]] * 40, [[], [(0, (1,))]], [[(0, (1,))], []], [[], [(3, (1,)), (2, (2,))], [], []]):
            with self.subTest(runs=runs):
                self.check(NUMBER, UP, runs)
        self.assertEqual(merged(NUMBER, UP, [[]] * 40), ([], 0))

    def test_every_order_and_number_of_runs(self):
        for kinds in EVERY_KINDS:
            for at, order in enumerate(orders_of(kinds)):
                told = list(enumerate(rows_of(kinds, 60, at)))
                for many in (1, 2, 3, 4, 5, 7, 8, 9, 17, 40):
                    with self.subTest(kinds=kinds, order=order, many=many):
                        self.check(kinds, order, [in_order(order, part) for part in cut(told, many)])

    def test_looks_of_every_number_of_runs(self):
        told = list(enumerate(rows_of(KINDS, 120, 6)))
        for many in range(1, 41):
            for part in (told, told[:many], told[:many + 1], told[:many - 1]):
                with self.subTest(many=many, rows=len(part)):
                    self.check(KINDS, ORDER, [in_order(ORDER, run) for run in cut(part, many)])

    def test_looks_of_runs_of_unlike_lengths(self):
        for many in (2, 3, 5, 6, 33):
            runs = runs_of([[number] for number in range(many - 1)] + [list(range(-20, 60))])
            for turned in (runs, runs[::-1]):
                with self.subTest(many=many):
                    self.check(NUMBER, UP, turned)

    def test_runs_that_follow_one_another(self):
        runs = runs_of([[3 * at, 3 * at + 1, 3 * at + 2] for at in range(40)])
        self.check(NUMBER, UP, runs)
        self.check(NUMBER, UP, runs[::-1])

    def test_runs_that_a_room_made(self):
        for make in (filled, exchanged):
            for size in (3, 7, 24):
                with self.subTest(make=make.__name__, size=size):
                    self.check(KINDS, ORDER, make(KINDS, ORDER, size, rows_of(KINDS, 120, size)))

    def test_like_rows_go_by_their_numbers_wherever_they_stand(self):
        runs = [[(5, (1,)), (9, (1,))], [(2, (1,)), (7, (1,))], [(0, (1,)), (6, (1,))]]
        for way in ("up", "down"):
            for turned in (runs, runs[::-1]):
                with self.subTest(way=way, runs=turned):
                    self.check(NUMBER, [(0, way)], turned)
                    told = merged(NUMBER, [(0, way)], turned)[0]
                    self.assertEqual([number for number, _ in told], [0, 2, 5, 6, 7, 9])

    def test_numbers_of_twenty_figures(self):
        runs = [[(MOST - 2, (1,)), (MOST, (1,))], [(0, (1,)), (MOST - 1, (1,))]]
        self.check(NUMBER, UP, runs)
        self.assertEqual([told[0] for told in merged(NUMBER, UP, runs)[0]], [0, MOST - 2, MOST - 1, MOST])

    def test_a_hundred_and_twenty_rows(self):
        self.check(NUMBER, UP, [[(at, (at,)) for at in range(120)]])
        self.check(NUMBER, UP, [[(at * 3 + by, (at,)) for by in range(3)] for at in range(40)])

    def test_somewhat_more_rows_are_not_refused(self):
        self.check(NUMBER, UP, [[(at * 2 + by, (at,)) for at in range(65)] for by in range(2)])


class Refused(Case):
    def test_what_is_no_row(self):
        for bad in BAD_ROWS:
            for ahead in (0, 1, 5):
                good = [[(at, (1, "a"))] for at in range(ahead)]
                with self.subTest(bad=bad, ahead=ahead):
                    self.refused(KINDS, ORDER, good + [[(90, (1, "a")), (91, bad)], [(-1, (1, "a"))]], ahead)

    def test_what_is_no_number(self):
        for bad in (-1, -MOST, True, False, "1", None):
            for ahead in (0, 1, 5):
                good = [[(at + 10, (1,))] for at in range(ahead)]
                with self.subTest(bad=bad, ahead=ahead):
                    self.refused(NUMBER, UP, good + [[(bad, (1,))]], ahead)
                    self.refused(NUMBER, UP, good + [[(90, (1,)), (bad, (2,))]], ahead)

    def test_what_is_no_number_and_row(self):
        for bad in ((), (1,), (1, (1,), 2), ((1,), 1), (1, 1)):
            with self.subTest(bad=bad):
                self.refused(NUMBER, UP, [[(0, (0,))], [bad]], 1)

    def test_rows_that_are_not_each_ahead_of_the_next(self):
        good = [[(70, (1, "a"))], []]
        for order, run in (
            ([(0, "up")], [(0, (2, "a")), (1, (1, "a"))]),
            ([(0, "down")], [(0, (1, "a")), (1, (2, "a"))]),
            ([(1, "up")], [(0, (1, "b")), (1, (2, "a"))]),
            ([(1, "down")], [(0, (2, "a")), (1, (1, "ab"))]),
            ([(0, "up")], [(1, (1, "a")), (0, (1, "b"))]),
            ([(0, "down")], [(1, (1, "a")), (0, (1, "a"))]),
            ([(0, "up"), (1, "down")], [(0, (1, "a")), (1, (1, "b"))]),
            ([(0, "up")], [(0, (1, "a")), (1, (3, "a")), (2, (2, "a"))]),
            ([(0, "up")], [(0, (3, "a")), (1, (1, "a")), (2, (2, "a"))]),
        ):
            with self.subTest(order=order, run=run):
                self.refused(KINDS, order, [run], 0)
                self.refused(KINDS, order, good + [run], 2)

    def test_a_number_twice_in_a_run(self):
        self.refused(NUMBER, UP, [[], [(3, (1,)), (3, (2,))]], 1)
        self.refused(NUMBER, UP, [[(3, (1,)), (3, (1,))]], 0)
        self.refused(NUMBER, UP, [[(3, (1,)), (4, (2,)), (3, (3,))]], 0)

    def test_a_number_twice_in_all(self):
        self.refused(NUMBER, UP, [[(3, (1,))], [(3, (1,))]], 1)
        self.refused(NUMBER, UP, [[(3, (1,)), (5, (2,))], [(1, (1,))], [(0, (1,)), (5, (7,))], [(0, (1,))]], 2)
        self.refused(NUMBER, UP, [[(MOST, (1,))], [], [(MOST, (2,))]], 2)

    def test_a_forty_first(self):
        runs = [[(at, (at,))] for at in range(43)]
        self.check(NUMBER, UP, runs[:40])
        for more in (runs[40:41], [[]], [[(0, (1,))]], runs[40:], [[(-1, (1,))], [(-1, (1,))]]):
            with self.subTest(more=more):
                self.refused(NUMBER, UP, runs[:40] + more, 40)
        self.refused(NUMBER, UP, [[]] * 41, 40)

    def test_a_wrong_one_ahead_of_the_forty_first(self):
        runs = [[(at, (at,))] for at in range(41)]
        runs[39] = [(0, (39,))]
        self.refused(NUMBER, UP, runs, 39)
        runs[17] = [(17, (1000,))]
        self.refused(NUMBER, UP, runs, 17)

    def test_the_first_of_several_for_whatever_reason(self):
        twice, unordered, none = [(3, (1,))], [(8, (2,)), (9, (1,))], [(-1, (1,))]
        good = [[(3, (0,)), (4, (1,))]]
        for bad in ([twice, unordered, none], [unordered, none, twice], [none, twice, unordered]):
            with self.subTest(bad=bad):
                self.refused(NUMBER, UP, good + bad, 1)

    def test_nothing_is_changed_by_a_refusal(self):
        runs = [[(3, (1,))], [(3, (1,))]]
        kept = copy.deepcopy(runs)
        self.refused(NUMBER, UP, runs, 1)
        self.assertEqual(runs, kept)
        runs[1] = [(4, (1,))]
        self.assertEqual(merged(NUMBER, UP, runs), ([(3, (1,)), (4, (1,))], 1))


class HandedInAndTold(Case):
    def test_nothing_that_is_handed_in_is_changed_or_kept(self):
        for many in (1, 2, 3, 8):
            with self.subTest(many=many):
                told = list(enumerate(rows_of(KINDS, 30, many)))
                order, runs = list(ORDER), [in_order(ORDER, part) for part in cut(told, many)]
                ahead = copy.deepcopy((order, runs))
                rows, looks = merged(KINDS, order, runs)
                self.assertEqual((order, runs), ahead)
                kept = list(rows)
                for run in runs:
                    run.clear()
                runs.clear()
                self.assertEqual(rows, kept)

    def test_what_is_told_may_be_changed(self):
        for runs in ([[(0, (1,)), (1, (2,))]], [[(0, (1,))], []], [[(0, (1,))], [(1, (0,))]]):
            with self.subTest(runs=runs):
                kept = copy.deepcopy(runs)
                rows, looks = merged(NUMBER, UP, runs)
                told = list(rows)
                rows.append((7, (7,)))
                rows.pop(0)
                self.assertEqual(runs, kept)
                self.assertEqual(merged(NUMBER, UP, runs), (told, looks))


if __name__ == "__main__":
    unittest.main()
