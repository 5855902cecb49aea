"""A Disk: what is written, what stays, and when it stops."""

import copy
import unittest

from runsorts.disk import Disk
from runsorts.errors import BadBlock, Stopped

FORTY = tuple(range(40))
WRITTEN = [0, -1, 10 ** 19, "", "a text of any length, as one thing", True, False, None, (), (1,), ("a", None, True),
           ((), ((), (1, ("b", (2, None)))), False), FORTY, (FORTY,), (FORTY[:20], ("a",) * 19, None), ((),) * 100]
TOO_HEAVY = [FORTY + (40,), (FORTY, 40), (FORTY, None), (FORTY, ""), (FORTY, (False,)), ((1,),) * 41,
             (FORTY[:20], FORTY[:21]), (None,) * 41, ("",) * 41, FORTY * 50]
NO_BLOCKS = [-1, 600, 601, -600, 10 ** 19, True, False]


def deep(what):
    for _ in range(5000):
        what = (what,)
    return what


class Case(unittest.TestCase):
    def settled(self, *pairs):
        """Tells a disk on which each (block, what) is settled."""
        disk = Disk()
        for block, what in pairs:
            disk.write(block, what)
        disk.settle()
        return disk

    def holds(self, disk, *pairs):
        """Looks that these blocks are settled, and no others."""
        blocks = [None] * 600
        for block, what in pairs:
            blocks[block] = what
        self.assertEqual(disk.blocks(), blocks)

    def has_stopped(self, disk):
        for deed in (lambda: disk.write(0, 1), disk.settle, lambda: disk.read(0)):
            with self.assertRaises(Stopped):
                deed()


class Interface(Case):
    def test_the_class_has_its_methods_itself(self):
        self.assertEqual(Disk.__module__, "runsorts.disk")
        for name in ("write", "settle", "read", "arm", "stop", "again", "blocks"):
            self.assertIn(name, vars(Disk))

    def test_arguments_have_their_names_and_none_is_told(self):
        disk = Disk()
        self.assertIsNone(disk.write(block=1, what=2))
        self.assertEqual(disk.read(block=1), 2)
        self.assertIsNone(disk.settle())
        self.assertIsNone(disk.arm(deeds=1, picks=[]))
        self.assertIsNone(disk.stop(picks=[]))
        self.assertIsNone(disk.again())
        self.assertIs(type(disk.blocks()), list)


class Blocks(Case):
    def test_six_hundred_and_none_at_first(self):
        disk = Disk()
        self.holds(disk)
        self.assertEqual([disk.read(block) for block in range(600)], [None] * 600)

    def test_what_was_written_last_is_read(self):
        disk = Disk()
        for what in WRITTEN:
            for block in (0, 1, 599):
                with self.subTest(what=what, block=block):
                    disk.write(block, what)
                    self.assertEqual(disk.read(block), what)
                    self.assertIs(type(disk.read(block)), type(what))
                    self.assertEqual(disk.read(block), what)
        self.assertIsNone(disk.read(300))

    def test_it_is_settled_only_behind_the_next_settle(self):
        disk = Disk()
        disk.write(0, "a")
        disk.write(599, ("b", 2))
        self.holds(disk)
        disk.settle()
        self.holds(disk, (0, "a"), (599, ("b", 2)))
        disk.write(0, "c")
        self.assertEqual(disk.read(0), "c")
        self.holds(disk, (0, "a"), (599, ("b", 2)))
        disk.write(0, None)
        disk.settle()
        self.holds(disk, (599, ("b", 2)))

    def test_blocks_that_there_are_not(self):
        disk = self.settled((0, 1), (1, 2), (599, 3))
        for block in NO_BLOCKS:
            with self.subTest(block=block):
                with self.assertRaises(BadBlock):
                    disk.read(block)
                with self.assertRaises(BadBlock):
                    disk.write(block, 7)
        disk.settle()
        self.holds(disk, (0, 1), (1, 2), (599, 3))

    def test_what_weighs_more_than_forty(self):
        disk = self.settled((5, "kept"))
        for what in TOO_HEAVY:
            with self.subTest(what=what), self.assertRaises(BadBlock):
                disk.write(5, what)
        self.assertEqual(disk.read(5), "kept")
        disk.settle()
        self.holds(disk, (5, "kept"))

    def test_however_deep_it_lies(self):
        disk = Disk()
        disk.write(0, deep(FORTY))
        with self.assertRaises(BadBlock):
            disk.write(1, deep(FORTY + (1,)))
        self.assertIsNone(disk.read(1))

    def test_what_is_told_is_new_each_time(self):
        disk = self.settled((3, "a"))
        told = disk.blocks()
        told[3] = "b"
        told.clear()
        self.holds(disk, (3, "a"))
        self.assertEqual(disk.read(3), "a")

    def test_disks_of_their_own(self):
        one, other = self.settled((1, "a")), Disk()
        one.stop([])
        other.write(1, "b")
        other.settle()
        self.holds(one, (1, "a"))
        self.holds(other, (1, "b"))


class Stops(Case):
    def test_nothing_stays_that_is_not_settled(self):
        disk = self.settled((0, "a"), (1, "b"))
        disk.write(0, "c")
        disk.write(2, "d")
        disk.stop([])
        self.has_stopped(disk)
        self.holds(disk, (0, "a"), (1, "b"))
        disk.again()
        self.assertEqual([disk.read(block) for block in range(3)], ["a", "b", None])
        disk.settle()
        self.holds(disk, (0, "a"), (1, "b"))

    def test_of_the_writes_those_stay_that_are_picked(self):
        for picks, pairs in (
            ([True, False, True, False], [(0, "c"), (2, "e")]),
            ([False, True, False, True], [(0, "a"), (1, "d"), (2, "f")]),
            ([True, True, True, True], [(0, "c"), (1, "d"), (2, "f")]),
            ([True], [(0, "c")]),
            ([False, False, True], [(0, "a"), (2, "e")]),
            ([True] * 60, [(0, "c"), (1, "d"), (2, "f")]),
            ([False] * 60, [(0, "a")]),
        ):
            for stop in range(2):
                with self.subTest(picks=picks, stop=stop):
                    disk = self.settled((0, "a"))
                    if stop == 0:
                        disk.arm(4, picks)
                    for block, what in ((0, "c"), (1, "d"), (2, "e"), (2, "f")):
                        disk.write(block, what)
                    self.holds(disk, (0, "a"))
                    if stop == 0:
                        with self.assertRaises(Stopped):
                            disk.settle()
                    else:
                        disk.stop(picks)
                    self.has_stopped(disk)
                    self.holds(disk, *pairs)
                    disk.again()
                    self.holds(disk, *pairs)
                    for block, what in pairs:
                        self.assertEqual(disk.read(block), what)

    def test_writes_that_are_settled_take_no_pick(self):
        disk = self.settled((0, "a"), (1, "b"))
        disk.write(2, "c")
        disk.write(3, "d")
        disk.stop([False, True])
        self.holds(disk, (0, "a"), (1, "b"), (3, "d"))

    def test_sixty_picks_of_more_writes(self):
        disk = Disk()
        for block in range(100):
            disk.write(block, block)
        disk.stop([True] * 60)
        self.holds(disk, *[(block, block) for block in range(60)])

    def test_so_many_deeds_are_done(self):
        for deeds in (0, 1, 2, 3, 4, 5, 10 ** 6):
            with self.subTest(deeds=deeds):
                disk, done = Disk(), 0
                disk.arm(deeds, [])
                try:
                    for at in range(3):
                        disk.write(at, at)
                        done += 1
                        disk.settle()
                        done += 1
                except Stopped:
                    self.has_stopped(disk)
                self.assertEqual(done, min(deeds, 6))
                self.holds(disk, *[(at, at) for at in range(done // 2)])

    def test_the_write_that_is_refused_is_not_picked(self):
        disk = Disk()
        disk.arm(1, [True, True, True])
        disk.write(0, "a")
        with self.assertRaises(Stopped):
            disk.write(1, "b")
        disk.again()
        self.holds(disk, (0, "a"))
        self.assertIsNone(disk.read(1))

    def test_what_is_read_or_told_is_no_deed(self):
        disk = Disk()
        disk.arm(1, [])
        for _ in range(5):
            disk.read(0)
            disk.blocks()
        disk.write(0, "a")
        for _ in range(5):
            self.assertEqual(disk.read(0), "a")
        with self.assertRaises(Stopped):
            disk.settle()

    def test_what_is_refused_as_bad_is_no_deed(self):
        disk = Disk()
        disk.arm(1, [True])
        for _ in range(3):
            with self.assertRaises(BadBlock):
                disk.write(600, 1)
            with self.assertRaises(BadBlock):
                disk.write(0, TOO_HEAVY[0])
        disk.write(0, 1)
        with self.assertRaises(BadBlock):
            disk.write(600, 1)
        self.assertEqual(disk.read(0), 1)
        with self.assertRaises(Stopped):
            disk.settle()

    def test_bad_blocks_go_ahead_of_stopped(self):
        disk = Disk()
        disk.stop([])
        for block in NO_BLOCKS:
            with self.subTest(block=block):
                with self.assertRaises(BadBlock):
                    disk.read(block)
                with self.assertRaises(BadBlock):
                    disk.write(block, 1)
        with self.assertRaises(BadBlock):
            disk.write(0, TOO_HEAVY[0])
        self.has_stopped(disk)

    def test_of_several_arms_the_newest_counts(self):
        disk = Disk()
        disk.arm(0, [True])
        disk.arm(2, [False, True])
        disk.write(0, "a")
        disk.write(1, "b")
        with self.assertRaises(Stopped):
            disk.write(2, "c")
        self.holds(disk, (1, "b"))
        disk.again()
        disk.arm(10, [])
        disk.write(0, "a")
        disk.arm(0, [])
        with self.assertRaises(Stopped):
            disk.settle()

    def test_a_disk_that_has_stopped_is_not_armed_or_stopped(self):
        disk = Disk()
        disk.write(0, "a")
        disk.stop([False])
        disk.stop([True])
        disk.arm(0, [True])
        self.has_stopped(disk)
        self.holds(disk)
        disk.again()
        disk.write(0, "b")
        disk.settle()
        self.holds(disk, (0, "b"))

    def test_again_leaves_nothing_armed(self):
        disk = Disk()
        disk.arm(0, [])
        disk.again()
        disk.write(0, "a")
        disk.settle()
        disk.arm(1, [])
        disk.stop([])
        disk.again()
        disk.write(0, "b")
        disk.settle()
        self.holds(disk, (0, "b"))

    def test_again_of_a_disk_that_runs_lets_go_what_is_not_settled(self):
        disk = self.settled((0, "a"))
        disk.write(0, "b")
        disk.write(1, "c")
        disk.again()
        self.assertEqual([disk.read(0), disk.read(1)], ["a", None])
        disk.write(2, "d")
        disk.stop([True])
        self.holds(disk, (0, "a"), (2, "d"))

    def test_a_stop_by_arm_is_not_one_by_stop(self):
        disk = Disk()
        disk.arm(0, [True])
        with self.assertRaises(Stopped):
            disk.write(0, "a")
        disk.stop([True])
        self.holds(disk)

    def test_blocks_are_told_of_a_disk_that_has_stopped(self):
        disk = self.settled((7, "a"))
        disk.stop([])
        self.holds(disk, (7, "a"))
        self.assertEqual(disk.blocks(), disk.blocks())

    def test_picks_may_be_changed_later(self):
        disk, picks = Disk(), [True, False]
        disk.arm(2, picks)
        picks[0], picks[1] = False, True
        picks.append(True)
        disk.write(0, "a")
        disk.write(1, "b")
        with self.assertRaises(Stopped):
            disk.settle()
        self.holds(disk, (0, "a"))
        self.assertEqual(picks, [False, True, True])

    def test_a_copy_goes_on_by_itself(self):
        disk = self.settled((0, "a"))
        disk.write(1, "b")
        other = copy.deepcopy(disk)
        disk.stop([True])
        other.settle()
        self.holds(other, (0, "a"), (1, "b"))


if __name__ == "__main__":
    unittest.main()
