"""A Sieve: what comes in, what goes out, and what it refuses."""

import unittest

from runsorts.errors import BadRows, Empty
from runsorts.rooms import Sieve
from samples import BAD_ROWS, EVERY_KINDS, GOOD_ROWS, KINDS, ORDER, in_order, orders_of, rows_of


class Interface(unittest.TestCase):
    def test_the_class_has_its_methods_itself(self):
        self.assertEqual(Sieve.__module__, "runsorts.rooms")
        for name in ("put", "take", "remains"):
            self.assertIn(name, vars(Sieve))

    def test_arguments_have_their_names(self):
        sieve = Sieve(kinds=KINDS, order=ORDER)
        self.assertEqual(sieve.put(row=(1, "a")), 0)
        self.assertEqual(sieve.take(), (0, (1, "a")))

    def test_kinds_of_values(self):
        sieve = Sieve(KINDS, ORDER)
        self.assertIs(type(sieve.put((1, "a"))), int)
        self.assertIs(type(sieve.remains()), int)
        told = sieve.take()
        self.assertIs(type(told), tuple)
        self.assertEqual([type(part) for part in told], [int, tuple])


class PutAndTake(unittest.TestCase):
    def test_rows_are_numbered_as_they_come(self):
        sieve = Sieve(KINDS, ORDER)
        self.assertEqual([sieve.put(row) for row in GOOD_ROWS], list(range(len(GOOD_ROWS))))

    def test_numbers_go_on_behind_rows_that_went_out(self):
        sieve = Sieve(KINDS, ORDER)
        sieve.put((1, "a"))
        sieve.take()
        self.assertEqual(sieve.put((1, "a")), 1)
        sieve.put((0, "a"))
        self.assertEqual(sieve.take(), (2, (0, "a")))
        self.assertEqual(sieve.take(), (1, (1, "a")))
        self.assertEqual(sieve.put((1, "a")), 3)

    def test_each_time_the_first_goes_out(self):
        for kinds in EVERY_KINDS:
            for order in orders_of(kinds):
                with self.subTest(kinds=kinds, order=order):
                    self.check_turns(kinds, order, rows_of(kinds, 60, 3))

    def check_turns(self, kinds, order, rows):
        """Lets three in for each one that goes out, and then the rest out."""
        sieve, there = Sieve(kinds, order), []
        for number, row in enumerate(rows):
            self.assertEqual(sieve.put(row), number)
            there = in_order(order, there + [(number, row)])
            self.assertEqual(sieve.remains(), len(there))
            if number % 3 == 2:
                self.assertEqual(sieve.take(), there.pop(0))
        while there:
            self.assertEqual(sieve.take(), there.pop(0))
            self.assertEqual(sieve.remains(), len(there))

    def test_remains_tells_the_same_again(self):
        sieve = Sieve(KINDS, ORDER)
        self.assertEqual([sieve.remains(), sieve.remains()], [0, 0])
        sieve.put((1, "a"))
        sieve.put((1, "b"))
        self.assertEqual([sieve.remains(), sieve.remains()], [2, 2])

    def test_one_sieve_changes_no_other_one(self):
        one, other = Sieve(KINDS, ORDER), Sieve(KINDS, ORDER)
        one.put((1, "a"))
        self.assertEqual(other.remains(), 0)
        self.assertEqual(other.put((2, "b")), 0)
        self.assertEqual(one.take(), (0, (1, "a")))

    def test_an_order_may_be_changed_later(self):
        order = [(0, "up")]
        sieve = Sieve(KINDS, order)
        order[0] = (0, "down")
        sieve.put((2, "a"))
        order.append((1, "up"))
        sieve.put((1, "b"))
        sieve.put((1, "a"))
        order.clear()
        sieve.put((1, "c"))
        self.assertEqual([sieve.take()[0] for _ in range(4)], [1, 2, 3, 0])

    def test_an_order_is_not_changed(self):
        order = [(1, "down"), (0, "up")]
        sieve = Sieve(KINDS, order)
        sieve.put((1, "a"))
        sieve.take()
        self.assertEqual(order, [(1, "down"), (0, "up")])


class Refusals(unittest.TestCase):
    def test_an_empty_one_tells_no_row(self):
        sieve = Sieve(KINDS, ORDER)
        with self.assertRaises(Empty):
            sieve.take()
        sieve.put((1, "a"))
        sieve.take()
        for _ in range(2):
            with self.assertRaises(Empty):
                sieve.take()
        self.assertEqual(sieve.remains(), 0)
        self.assertEqual(sieve.put((1, "a")), 1)

    def test_what_is_no_row_is_refused_and_changes_nothing(self):
        for bad in BAD_ROWS:
            with self.subTest(bad=bad):
                sieve = Sieve(KINDS, ORDER)
                with self.assertRaises(BadRows) as caught:
                    sieve.put(bad)
                self.assertEqual(caught.exception.place, 0)
                self.assertEqual(sieve.remains(), 0)
                self.assertEqual(sieve.put((5, "e")), 0)
                with self.assertRaises(BadRows):
                    sieve.put(bad)
                self.assertEqual(sieve.put((4, "e")), 1)
                self.assertEqual(sieve.remains(), 2)
                self.assertEqual([sieve.take(), sieve.take()], [(1, (4, "e")), (0, (5, "e"))])

    def test_the_place_is_that_of_the_one_row_that_is_handed_in(self):
        sieve = Sieve(KINDS, ORDER)
        for came, row in enumerate(GOOD_ROWS):
            with self.subTest(came=came), self.assertRaises(BadRows) as caught:
                sieve.put((1, "A"))
            self.assertEqual(caught.exception.place, 0)
            self.assertEqual(sieve.put(row), came)
        sieve.take()
        with self.assertRaises(BadRows) as caught:
            sieve.put((1, "A"))
        self.assertEqual(caught.exception.place, 0)
        self.assertEqual(sieve.remains(), len(GOOD_ROWS) - 1)

    def test_a_hundred_and_twenty_rows_come_and_no_more(self):
        rows = rows_of(KINDS, 120, 8)
        sieve = Sieve(KINDS, ORDER)
        self.assertEqual([sieve.put(row) for row in rows], list(range(120)))
        for _ in range(2):
            with self.assertRaises(BadRows) as caught:
                sieve.put((1, "a"))
            self.assertEqual(caught.exception.place, 0)
        self.assertEqual(sieve.remains(), 120)
        self.assertEqual([sieve.take() for _ in rows], in_order(ORDER, list(enumerate(rows))))

    def test_rows_that_went_out_have_come_too(self):
        sieve = Sieve(KINDS, ORDER)
        for row in rows_of(KINDS, 120, 8):
            sieve.put(row)
            sieve.take()
        with self.assertRaises(BadRows):
            sieve.put((1, "a"))
        self.assertEqual(sieve.remains(), 0)


if __name__ == "__main__":
    unittest.main()
