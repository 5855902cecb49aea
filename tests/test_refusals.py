"""What a Sorter refuses, in which order, and that nothing is changed and nothing written by it."""

import unittest

from plain_sorter import KINDS, ORDER, SIZES, descending, finish, like, made_sorter
from runsorts.disk import Disk
from runsorts.errors import BadCount, BadKinds, BadOrder, BadRoom, BadRows, NotYet, Shut, Stopped
from runsorts.sorter import Sorter
from samples import BAD_KINDS, BAD_ORDERS, BAD_ROWS, in_order, rows_of

SIZE = (8, 2, 3)
BAD_SIZES = [
    (2, 1, 2), (3, 1, 3), (25, 1, 2), (25, 4, 5), (0, 1, 2), (-3, 1, 2), (10 ** 19, 1, 2), (5, 2, 2), (11, 4, 2),
    (23, 4, 5), (15, 4, 3), (19, 4, 4), (8, 3, 2), (24, 0, 2), (24, 5, 2), (24, -1, 2), (24, 10 ** 19, 2), (24, 1, 1),
    (24, 1, 6), (24, 1, 0), (24, 1, -2), (24, 1, 10 ** 19), (True, 1, 2), (24, True, 2), (24, 1, True), (False, 1, 2),
    (24, False, 2), (24, 1, False),
]


def told(sorter):
    """Tell all that a sorter tells, but what may be refused."""
    return [sorter.told_runs(), sorter.under_way(), sorter.is_done(), sorter.counts(), sorter.most_rows(),
            sorter.free()]


class Case(unittest.TestCase):
    def refused(self, refusal, disk, sorter, deed):
        """Looks that something is refused, twice, and neither changes what is told nor writes."""
        ahead, blocks = told(sorter), disk.blocks()
        # No deed is armed: a write or settle would stop the disk.
        disk.arm(0, [])
        for _ in range(2):
            with self.assertRaises(refusal) as caught:
                deed()
        disk.arm(10 ** 6, [])
        self.assertEqual((told(sorter), disk.blocks()), (ahead, blocks))
        return caught.exception


class Made(Case):
    def test_sizes_at_the_edges_are_taken(self):
        for page in range(1, 5):
            for ways in range(2, 6):
                for room in range(25):
                    if (ways + 1) * page <= room <= 24:
                        Sorter(Disk(), KINDS, ORDER, room, page, ways)
                    else:
                        with self.assertRaises(BadRoom):
                            Sorter(Disk(), KINDS, ORDER, room, page, ways)

    def refused_to_make(self, refusal, *handed):
        """Looks that no sorter is made of a new disk, and that nothing is written."""
        disk = Disk()
        disk.arm(0, [])
        with self.assertRaises(refusal):
            Sorter(disk, *handed)
        disk.read(0)
        self.assertEqual(disk.blocks(), [None] * 600)

    def test_bad_kinds_orders_and_sizes(self):
        for kinds in BAD_KINDS:
            with self.subTest(kinds=kinds):
                self.refused_to_make(BadKinds, kinds, [], 0, 0, 0)
        for order in BAD_ORDERS:
            with self.subTest(order=order):
                self.refused_to_make(BadOrder, KINDS, order, 0, 0, 0)
        for size in BAD_SIZES:
            with self.subTest(size=size):
                self.refused_to_make(BadRoom, KINDS, ORDER, *size)

    def test_a_disk_that_has_stopped(self):
        disk = Disk()
        disk.stop([])
        with self.assertRaises(Stopped):
            Sorter(disk, KINDS, ORDER, *SIZE)
        # The disk is handed in first.
        with self.assertRaises(Stopped):
            Sorter(disk, (), [], 0, 0, 0)

    def test_a_disk_of_a_sorter_that_was_made_of_others(self):
        disk, sorter = made_sorter(SIZE, rows_of(KINDS, 30, 1))
        for _ in range(25):
            sorter.step()
            for handed in (
                (("number", "number"), ORDER) + SIZE, (KINDS + ("word",), ORDER) + SIZE, (KINDS[::-1], ORDER) + SIZE,
                (KINDS, ORDER[::-1]) + SIZE, (KINDS, ORDER[:1]) + SIZE, (KINDS, [(1, "up"), (0, "up")]) + SIZE,
                (KINDS, ORDER, 9, 2, 3), (KINDS, ORDER, 8, 1, 3), (KINDS, ORDER, 8, 2, 2),
            ):
                with self.subTest(handed=handed):
                    self.refused(BadRoom, disk, sorter, lambda: Sorter(disk, *handed))
                    other = like(disk)
                    self.refused(BadRoom, other, sorter, lambda: Sorter(other, *handed))
        finish(sorter)
        self.assertEqual(sorter.rows(), in_order(ORDER, list(enumerate(rows_of(KINDS, 30, 1)))))

    def test_others_go_behind_all(self):
        disk = Disk()
        sorter = Sorter(disk, KINDS, ORDER, *SIZE)
        self.refused(BadKinds, disk, sorter, lambda: Sorter(disk, (), ORDER, *SIZE))
        self.refused(BadOrder, disk, sorter, lambda: Sorter(disk, ("word",), ORDER, *SIZE))
        self.refused(BadRoom, disk, sorter, lambda: Sorter(disk, ("word",), [(0, "up")], *SIZE))
        disk.stop([])
        with self.assertRaises(Stopped):
            Sorter(disk, ("word",), [(0, "up")], *SIZE)


class Put(Case):
    def sorter(self, came=0):
        disk = Disk()
        sorter = Sorter(disk, KINDS, ORDER, *SIZE)
        for at in range(0, came, 40):
            sorter.put(rows_of(KINDS, min(40, came - at), 1))
        return disk, sorter

    def test_the_first_row_that_is_none(self):
        for came in (0, 7, 120):
            disk, sorter = self.sorter(came)
            for bad in BAD_ROWS:
                for ahead in (0, 1, 39):
                    rows = rows_of(KINDS, ahead, 5) + [bad, (1000, "a")]
                    with self.subTest(came=came, bad=bad, ahead=ahead):
                        caught = self.refused(BadRows, disk, sorter, lambda: sorter.put(rows))
                        self.assertEqual(caught.place, ahead)
            self.assertEqual(sorter.put([]), came)

    def test_the_first_row_too_many(self):
        disk, sorter = self.sorter()
        rows = rows_of(KINDS, 40, 2)
        for more in ([(1, "a")], [(1, "A")], [(1, "a")] * 90, [(1, "a"), (1, "A")]):
            with self.subTest(more=more):
                caught = self.refused(BadRows, disk, sorter, lambda: sorter.put(rows + more))
                self.assertEqual(caught.place, 40)
        self.assertEqual(self.refused(BadRows, disk, sorter, lambda: sorter.put(rows[:39] + [()] * 9)).place, 39)
        self.assertEqual(sorter.put(rows), 0)
        self.assertEqual(sorter.put([]), 40)

    def test_no_more_than_a_hundred_and_twenty_come(self):
        for came, more in ((120, 1), (119, 2), (81, 40), (120, 40), (100, 21)):
            disk, sorter = self.sorter(came)
            with self.subTest(came=came, more=more):
                self.refused(BadCount, disk, sorter, lambda: sorter.put(rows_of(KINDS, more, 3)))
                self.assertEqual(sorter.put(rows_of(KINDS, 120 - came, 3)), came)
                self.assertEqual(sorter.put([]), 120)
                self.refused(BadCount, disk, sorter, lambda: sorter.put([(1, "a")]))

    def test_bad_rows_then_shut_then_counts(self):
        disk, sorter = self.sorter(120)
        self.refused(BadRows, disk, sorter, lambda: sorter.put([(1, "A")]))
        self.refused(BadRows, disk, sorter, lambda: sorter.put([(1, "a")] * 41))
        self.refused(BadCount, disk, sorter, lambda: sorter.put([(1, "a")]))
        sorter.shut()
        self.refused(BadRows, disk, sorter, lambda: sorter.put([(1, "A")]))
        self.refused(BadRows, disk, sorter, lambda: sorter.put([(1, "a")] * 41))
        for rows in ([], [(1, "a")], [(1, "a")] * 40):
            self.refused(Shut, disk, sorter, lambda: sorter.put(rows))
        self.refused(Shut, disk, sorter, sorter.shut)

    def test_shut_is_refused_behind_shut_at_any_time(self):
        disk, sorter = made_sorter((3, 1, 2), descending(5))
        while True:
            self.refused(Shut, disk, sorter, sorter.shut)
            self.refused(Shut, disk, sorter, lambda: sorter.put([]))
            anew = Sorter(disk, KINDS, ORDER, 3, 1, 2)
            self.refused(Shut, disk, anew, anew.shut)
            if not anew.step():
                break
            sorter = Sorter(disk, KINDS, ORDER, 3, 1, 2)

    def test_stopped_goes_behind(self):
        disk, sorter = self.sorter(120)
        disk.stop([])
        with self.assertRaises(BadRows):
            sorter.put([(1, "A")])
        with self.assertRaises(BadCount):
            sorter.put([(1, "a")])
        with self.assertRaises(NotYet):
            sorter.step()
        for deed in (lambda: sorter.put([]), sorter.shut):
            with self.assertRaises(Stopped):
                deed()
        disk, sorter = made_sorter(SIZE, rows_of(KINDS, 30, 1))
        disk.stop([])
        for rows, refusal in (([()], BadRows), ([], Shut)):
            with self.assertRaises(refusal):
                sorter.put(rows)
        with self.assertRaises(Shut):
            sorter.shut()
        with self.assertRaises(NotYet):
            sorter.rows()
        with self.assertRaises(NotYet):
            sorter.first(3)
        with self.assertRaises(Stopped):
            sorter.step()


class NotYetOrBadCount(Case):
    def test_no_step_ahead_of_shut(self):
        disk = Disk()
        sorter = Sorter(disk, KINDS, ORDER, *SIZE)
        self.refused(NotYet, disk, sorter, sorter.step)
        sorter.put(rows_of(KINDS, 9, 1))
        self.refused(NotYet, disk, sorter, sorter.step)
        sorter.shut()
        self.assertIs(sorter.step(), True)

    def test_no_rows_ahead_of_the_end(self):
        for size in SIZES:
            disk = Disk()
            sorter = Sorter(disk, KINDS, ORDER, *size)
            self.refused(NotYet, disk, sorter, sorter.rows)
            sorter.put(descending(40))
            self.refused(NotYet, disk, sorter, sorter.rows)
            sorter.shut()
            while not sorter.is_done():
                self.refused(NotYet, disk, sorter, sorter.rows)
                sorter.step()
            self.assertEqual(len(sorter.rows()), 40)

    def test_no_first_ahead_of_all_runs(self):
        for size in SIZES:
            disk = Disk()
            sorter = Sorter(disk, KINDS, ORDER, *size)
            self.refused(NotYet, disk, sorter, lambda: sorter.first(0))
            sorter.put(descending(40))
            self.refused(NotYet, disk, sorter, lambda: sorter.first(100))
            sorter.shut()
            while sum(many for _, many in sorter.told_runs()) < 40:
                self.refused(NotYet, disk, sorter, lambda: sorter.first(1))
                sorter.step()
            while True:
                self.assertEqual(len(sorter.first(100)[0]), 40)
                if not sorter.step():
                    break

    def test_counts_that_are_none(self):
        disk = Disk()
        sorter = Sorter(disk, KINDS, ORDER, *SIZE)
        for many in (-1, 101, 102, 10 ** 19, -10 ** 19, True, False):
            self.refused(BadCount, disk, sorter, lambda: sorter.first(many))
        sorter.put(rows_of(KINDS, 9, 1))
        sorter.shut()
        while True:
            for many in (-1, 101, True, False):
                self.refused(BadCount, disk, sorter, lambda: sorter.first(many))
            if not sorter.step():
                break
        self.assertEqual(len(sorter.first(100)[0]), 9)
        self.assertEqual(sorter.first(0), ([], 0))

    def test_what_is_told_writes_nothing(self):
        disk, sorter = made_sorter((3, 1, 2), descending(9))
        while True:
            blocks = disk.blocks()
            disk.arm(0, [True] * 60)
            told(sorter)
            if sum(many for _, many in sorter.told_runs()) == 9:
                sorter.first(100)
            if sorter.is_done():
                sorter.rows()
            disk.arm(10 ** 6, [])
            self.assertEqual(disk.blocks(), blocks)
            if not sorter.step():
                break


if __name__ == "__main__":
    unittest.main()
