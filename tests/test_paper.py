"""Papers: which ones are good, what they show, and the one that is told."""

import unittest

from plain_plans import LENGTHS, fewest_of_neighbours, is_good
from runsorts.errors import BadPaper
from runsorts.plans import bound, neighbours, paper

STRETCHES = [(begin, end) for begin in range(4) for end in range(begin + 2, 5)]
FOUR = [5, 1, 2, 4]


def nothing(many):
    """Tell the paper of so many runs whose numbers are all 0."""
    return [(begin, end, 0) for begin in range(many) for end in range(begin + 2, many + 1)]


class Told(unittest.TestCase):
    def test_by_begins_then_ends(self):
        told = paper(FOUR, 2)
        self.assertIs(type(told), list)
        self.assertEqual([entry[:2] for entry in told], STRETCHES)
        for entry in told:
            self.assertIs(type(entry), tuple)
            self.assertEqual([type(part) for part in entry], [int, int, int])

    def test_each_number_is_the_fewest_of_its_stretch(self):
        self.assertEqual(paper([1, 2, 3], 2), [(0, 2, 3), (0, 3, 9), (1, 3, 5)])
        for lengths in LENGTHS:
            for ways in range(2, 7):
                with self.subTest(lengths=lengths, ways=ways):
                    self.assertEqual(paper(lengths, ways), [
                        (begin, end, fewest_of_neighbours(lengths[begin:end], ways))
                        for begin in range(len(lengths)) for end in range(begin + 2, len(lengths) + 1)
                    ])

    def test_it_shows_what_neighbours_tell(self):
        for lengths in LENGTHS + [[1, 10 ** 6] * 20, [10 ** 6] * 40]:
            for ways in (2, 3, 6):
                with self.subTest(lengths=lengths, ways=ways):
                    self.assertEqual(bound(lengths, ways, paper(lengths, ways)), neighbours(lengths, ways)[0])

    def test_a_single_run_has_none(self):
        self.assertEqual(paper([7], 2), [])
        self.assertEqual(bound([7], 2, []), 0)

    def test_what_is_told_is_new_each_time(self):
        told = paper(FOUR, 2)
        kept = list(told)
        told.clear()
        self.assertEqual(paper(FOUR, 2), kept)


class Good(unittest.TestCase):
    def test_stretches_in_any_turn(self):
        told = paper(FOUR, 2)
        for turned in (told[::-1], told[3:] + told[:3], sorted(told, key=lambda entry: entry[2])):
            self.assertEqual(bound(FOUR, 2, turned), neighbours(FOUR, 2)[0])

    def test_numbers_that_are_less(self):
        for lengths in LENGTHS:
            self.assertEqual(bound(lengths, 2, nothing(len(lengths))), 0)
        told = [(begin, end, number - 1) for begin, end, number in paper(FOUR, 2)]
        for begin, end, number in told:
            less = {entry[:2]: entry[2] for entry in told}
            less[(begin, end)] = number - 5
            self.check(FOUR, 2, less)
        self.assertEqual(bound([5, 1], 2, [(0, 2, -10 ** 19)]), -10 ** 19)

    def check(self, lengths, ways, numbers):
        """Looks whether a paper is taken just if it is good."""
        told = [(begin, end, number) for (begin, end), number in numbers.items()]
        if is_good(lengths, ways, numbers):
            self.assertEqual(bound(lengths, ways, told), numbers.get((0, len(lengths)), 0))
        else:
            with self.assertRaises(BadPaper):
                bound(lengths, ways, told)

    def test_one_number_more_or_less(self):
        for lengths in LENGTHS:
            for ways in range(2, 7):
                numbers = {entry[:2]: entry[2] for entry in paper(lengths, ways)}
                for stretch in numbers:
                    for by in (-3, -1, 0, 1, 2):
                        with self.subTest(lengths=lengths, ways=ways, stretch=stretch, by=by):
                            self.check(lengths, ways, {**numbers, stretch: numbers[stretch] + by})

    def test_less_inside_means_less_outside(self):
        numbers = {entry[:2]: entry[2] for entry in paper(FOUR, 2)}
        for inner in numbers:
            for outer in numbers:
                for by in (0, 1, 2):
                    less = {**numbers, inner: numbers[inner] - 2}
                    less[outer] -= by
                    with self.subTest(inner=inner, outer=outer, by=by):
                        self.check(FOUR, 2, less)
                        self.check(FOUR, 3, less)

    def test_it_is_good_for_its_own_ways_and_lengths(self):
        lengths = [4, 4, 4, 4, 4, 4]
        for ways in range(2, 7):
            told = {entry[:2]: entry[2] for entry in paper(lengths, ways)}
            for other in range(2, 7):
                with self.subTest(ways=ways, other=other):
                    self.check(lengths, other, told)
                    self.check([4, 4, 3, 4, 4, 4], other, told)

    def test_no_plan_of_neighbours_moves_fewer(self):
        for lengths in LENGTHS:
            numbers = {}
            for begin, end, number in paper(lengths, 3):
                numbers[(begin, end)] = number - (begin + end) % 3
            if is_good(lengths, 3, numbers):
                told = [(begin, end, number) for (begin, end), number in numbers.items()]
                self.assertLessEqual(bound(lengths, 3, told), neighbours(lengths, 3)[0])


class Refused(unittest.TestCase):
    def refused(self, lengths, told):
        with self.assertRaises(BadPaper):
            bound(lengths, 2, told)

    def test_a_stretch_left_out(self):
        for at in range(len(STRETCHES)):
            told = paper(FOUR, 2)
            told.pop(at)
            self.refused(FOUR, told)
        self.refused(FOUR, [])
        self.refused([1, 2], [])

    def test_a_stretch_told_twice(self):
        for at in range(len(STRETCHES)):
            told = paper(FOUR, 2)
            self.refused(FOUR, told + [told[at]])
            self.refused(FOUR, [told[at][:2] + (0,)] + told)
            self.refused(FOUR, told[:at] + told[at + 1:] + [told[at - 1]])

    def test_a_stretch_put_in(self):
        for stretch in ((0, 1), (3, 4), (0, 0), (2, 1), (4, 2), (-1, 1), (-2, 4), (0, 5), (3, 5), (4, 6), (-1, 5),
                        (-3, -1), (0, 10 ** 19)):
            with self.subTest(stretch=stretch):
                self.refused(FOUR, paper(FOUR, 2) + [stretch + (0,)])
                self.refused(FOUR, [stretch + (-5,)] + paper(FOUR, 2)[1:])
        self.refused([7], [(0, 1, 0)])
        self.refused([7], [(0, 2, 0)])

    def test_what_is_no_number(self):
        told = paper([1, 2], 2)
        self.assertEqual(told, [(0, 2, 3)])
        for bad in ((0, 2, True), (0, 2, False), (False, 2, 3), (0, 2, None), (0, 2, "3"), (0, 2), (0, 2, 3, 3), ()):
            with self.subTest(bad=bad):
                self.refused([1, 2], [bad])
        self.refused([1, 2, 3], [(0, 2, 0), (0, 3, 0), (True, 3, 0)])

    def test_a_number_too_great(self):
        self.refused([1, 2], [(0, 2, 4)])
        self.refused([1, 2], [(0, 2, 10 ** 19)])
        self.refused([1, 2, 3], [(0, 2, 3), (0, 3, 10), (1, 3, 5)])
        self.refused([1, 2, 3], [(0, 2, 2), (0, 3, 9), (1, 3, 5)])
        self.assertEqual(bound([1, 2, 3], 2, [(0, 2, 2), (0, 3, 8), (1, 3, 5)]), 8)

    def test_nothing_is_changed_or_kept(self):
        lengths, told = [1, 2, 3], [(0, 2, 3), (0, 3, 10), (1, 3, 5)]
        self.refused(lengths, told)
        self.assertEqual((lengths, told), ([1, 2, 3], [(0, 2, 3), (0, 3, 10), (1, 3, 5)]))
        told[1] = (0, 3, 9)
        self.assertEqual([bound(lengths, 2, told), bound(lengths, 2, told)], [9, 9])
        self.assertEqual(told, [(0, 2, 3), (0, 3, 9), (1, 3, 5)])


if __name__ == "__main__":
    unittest.main()
