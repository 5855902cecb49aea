"""Plans: what they cost, the cheapest ones, and those of neighbours."""

import copy
import unittest

from plain_plans import (BAD_LENGTHS, BAD_WAYS, LENGTHS, bad_plans, chain, fewest, fewest_of_neighbours, leaves,
                         moved_by, some_plans)
from runsorts import plans
from runsorts.errors import BadLengths, BadPaper, BadPlan, BadRoom
from runsorts.plans import bound, cheapest, cost, neighbours, paper


class Interface(unittest.TestCase):
    def test_the_functions_are_defined_here(self):
        for name in ("cost", "cheapest", "neighbours", "bound", "paper"):
            self.assertEqual(getattr(plans, name).__module__, "runsorts.plans")

    def test_arguments_have_their_names(self):
        self.assertEqual(cost(lengths=[3, 4], ways=2, plan=(1, 0)), 7)
        self.assertEqual(cheapest(lengths=[3], ways=2), (0, 0))
        self.assertEqual(neighbours(lengths=[3], ways=2), (0, 0))
        self.assertEqual(bound(lengths=[3, 4], ways=2, told=[(0, 2, 7)]), 7)
        self.assertEqual(paper(lengths=[3, 4], ways=2), [(0, 2, 7)])

    def test_kinds_of_values(self):
        self.assertIs(type(cost([3, 4], 2, (1, 0))), int)
        for tell in (cheapest, neighbours):
            told = tell([3, 4, 5], 2)
            self.assertIs(type(told), tuple)
            self.assertEqual([type(part) for part in told], [int, tuple])


class Cost(unittest.TestCase):
    def test_each_merge_moves_as_many_rows_as_it_has(self):
        self.assertEqual(cost([5], 2, 0), 0)
        self.assertEqual(cost([5, 7], 2, (0, 1)), 12)
        self.assertEqual(cost([5, 7], 2, (1, 0)), 12)
        self.assertEqual(cost([1, 2, 4], 2, ((0, 1), 2)), 3 + 7)
        self.assertEqual(cost([1, 2, 4], 2, ((0, 2), 1)), 5 + 7)
        self.assertEqual(cost([1, 2, 4], 3, (2, 0, 1)), 7)
        self.assertEqual(cost([1, 2, 4, 8, 16], 3, ((0, 1, (3, 2)), 4)), 12 + 15 + 31)

    def test_many_plans(self):
        for lengths in LENGTHS:
            for ways in range(2, 7):
                for plan in some_plans(len(lengths), ways):
                    with self.subTest(lengths=lengths, ways=ways, plan=plan):
                        self.assertEqual(cost(lengths, ways, plan), moved_by(lengths, plan))

    def test_lengths_at_the_edges(self):
        self.assertEqual(cost([10 ** 6, 1], 2, (0, 1)), 10 ** 6 + 1)
        self.assertEqual(cost([10 ** 6] * 40, 2, chain(40)), 10 ** 6 * (sum(range(2, 41))))

    def test_plans_that_are_none(self):
        for lengths, ways, plan in bad_plans():
            with self.subTest(lengths=lengths, ways=ways), self.assertRaises(BadPlan):
                cost(lengths, ways, plan)

    def test_as_many_ways_as_there_are(self):
        for ways in range(2, 7):
            with self.subTest(ways=ways):
                self.assertEqual(cost([1] * ways, ways, tuple(range(ways))), ways)
                with self.assertRaises(BadPlan):
                    cost([1] * (ways + 1), ways, tuple(range(ways + 1)))


class Cheapest(unittest.TestCase):
    def check(self, lengths, ways, wanted):
        moved, plan = cheapest(lengths, ways)
        self.assertEqual(moved, wanted)
        self.assertEqual(moved_by(lengths, plan), moved)
        self.assertEqual(cost(lengths, ways, plan), moved)

    def test_no_plan_moves_fewer(self):
        for lengths in [[1], [1, 1], [9, 1], [1, 2, 3], [3, 3, 3, 3], [8, 1, 4, 2], [1, 1, 1, 1, 1], [9, 2, 7, 2, 4],
                        [1, 2, 4, 8, 16, 32], [5, 5, 5, 5, 5, 1], [1, 100, 1, 100, 1, 100], [6, 1, 3, 3, 1, 6, 2]]:
            for ways in range(2, 7):
                with self.subTest(lengths=lengths, ways=ways):
                    self.check(lengths, ways, fewest(lengths, ways))

    def test_a_single_run_moves_none(self):
        for ways in range(2, 7):
            self.assertEqual(cheapest([10 ** 6], ways), (0, 0))

    def test_forty_runs(self):
        for ways in range(2, 7):
            for lengths in ([10 ** 6] * 40, list(range(1, 41)), [1] * 39 + [10 ** 6]):
                with self.subTest(ways=ways):
                    moved, plan = cheapest(lengths, ways)
                    self.assertEqual(cost(lengths, ways, plan), moved)
            self.check([7] * 40, ways, 7 * sum_of_like(40, ways))

    def test_a_deep_plan(self):
        lengths = [min(2 ** at, 10 ** 6) for at in range(20)]
        moved, plan = cheapest(lengths, 2)
        self.assertEqual(cost(lengths, 2, plan), moved)
        self.assertEqual(moved, sum(sum(lengths[:at]) for at in range(2, 21)))

    def test_the_first_merge_is_the_one_of_fewer(self):
        self.check([1, 1, 1, 1], 3, 2 + 4)
        self.check([1, 1, 1, 1, 1, 1], 4, 3 + 6)
        self.check([1, 1, 1, 1, 1, 1, 1], 5, 3 + 7)


def sum_of_like(many, ways):
    """Tell the fewest rows that merging so many runs of one row moves: all leaves lie at one depth or the next."""
    depth = 0
    while ways ** (depth + 1) <= many:
        depth += 1
    over = many - ways ** depth
    # Each leaf that is merged one deeper makes room for ways - 1 more.
    deeper = -(-over // (ways - 1))
    return many * depth + over + deeper


class Neighbours(unittest.TestCase):
    def check(self, lengths, ways, wanted):
        moved, plan = neighbours(lengths, ways)
        self.assertEqual(moved, wanted)
        self.assertEqual(leaves(plan), list(range(len(lengths))))
        self.assertEqual(cost(lengths, ways, plan), moved)

    def test_no_plan_of_neighbours_moves_fewer(self):
        for lengths in LENGTHS:
            for ways in range(2, 7):
                with self.subTest(lengths=lengths, ways=ways):
                    self.check(lengths, ways, fewest_of_neighbours(lengths, ways))

    def test_no_fewer_than_the_cheapest(self):
        for lengths in LENGTHS:
            for ways in range(2, 7):
                with self.subTest(lengths=lengths, ways=ways):
                    self.assertLessEqual(cheapest(lengths, ways)[0], neighbours(lengths, ways)[0])

    def test_where_neighbours_cost_more(self):
        self.check([1, 9, 1], 2, 10 + 11)
        self.assertEqual(cheapest([1, 9, 1], 2)[0], 2 + 11)

    def test_a_single_run_and_forty(self):
        self.check([10 ** 6], 6, 0)
        for ways in (2, 3, 6):
            for lengths in ([10 ** 6] * 40, list(range(1, 41)), [1, 10 ** 6] * 20):
                with self.subTest(ways=ways):
                    self.check(lengths, ways, fewest_of_neighbours(lengths, ways))


class Refused(unittest.TestCase):
    def calls(self):
        return [
            lambda lengths, ways: cost(lengths, ways, 7.5), cheapest, neighbours, paper,
            lambda lengths, ways: bound(lengths, ways, None),
        ]

    def test_lengths(self):
        for lengths in BAD_LENGTHS:
            for ways in (2, 1):
                for at, call in enumerate(self.calls()):
                    with self.subTest(lengths=lengths, ways=ways, call=at), self.assertRaises(BadLengths):
                        call(lengths, ways)

    def test_ways(self):
        for ways in BAD_WAYS:
            for at, call in enumerate(self.calls()):
                with self.subTest(ways=ways, call=at), self.assertRaises(BadRoom):
                    call([1, 2], ways)

    def test_plans_and_papers_go_behind(self):
        with self.assertRaises(BadPlan):
            cost([1, 2], 2, (0, 0))
        with self.assertRaises(BadPaper):
            bound([1, 2], 2, [])

    def test_lengths_at_the_edges_are_taken(self):
        for lengths in ([1], [10 ** 6], [1] * 40, [10 ** 6] * 40):
            for ways in (2, 6):
                self.assertEqual(len(leaves(cheapest(lengths, ways)[1])), len(lengths))


class HandedInAndTold(unittest.TestCase):
    def test_lengths_are_not_changed_or_kept(self):
        for call in (cheapest, neighbours, paper, lambda lengths, ways: cost(lengths, ways, chain(5)),
                     lambda lengths, ways: bound(lengths, ways, paper(lengths, ways))):
            lengths = [4, 2, 9, 2, 1]
            told = call(lengths, 3)
            self.assertEqual(lengths, [4, 2, 9, 2, 1])
            kept = copy.deepcopy(told)
            lengths.clear()
            self.assertEqual(told, kept)
            self.assertEqual(call([4, 2, 9, 2, 1], 3), kept)


if __name__ == "__main__":
    unittest.main()
