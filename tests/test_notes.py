"""Texts of orders and of plans: written, read, and refused."""

import unittest

from plain_plans import BAD_LENGTHS, BAD_WAYS, LENGTHS, bad_plans, chain, grouped, some_plans
from runsorts import notes
from runsorts.errors import BadKinds, BadLengths, BadOrder, BadPlan, BadRoom, BadText
from runsorts.notes import read_order, read_plan, written_order, written_plan
from samples import BAD_KINDS, BAD_ORDERS, EVERY_KINDS, KINDS, orders_of

FOUR = ("number", "word", "word", "number")


class Case(unittest.TestCase):
    def refused(self, place, read, *handed):
        with self.assertRaises(BadText) as caught:
            read(*handed)
        self.assertEqual(caught.exception.place, place)


class Interface(unittest.TestCase):
    def test_the_functions_are_defined_here(self):
        for name in ("written_order", "written_plan", "read_order", "read_plan"):
            self.assertEqual(getattr(notes, name).__module__, "runsorts.notes")

    def test_arguments_have_their_names(self):
        self.assertEqual(written_order(kinds=KINDS, order=[(1, "up")]), "1 up")
        self.assertEqual(read_order(kinds=KINDS, text="1 up"), [(1, "up")])
        self.assertEqual(written_plan(lengths=[1, 2], ways=2, plan=(1, 0)), "( 1 0 )")
        self.assertEqual(read_plan(lengths=[1, 2], ways=2, text="( 1 0 )"), (1, 0))


class Orders(Case):
    def test_as_the_document_writes_them(self):
        kinds = ("number", "word", "number")
        self.assertEqual(written_order(kinds, [(2, "down"), (0, "up")]), "2 down, 0 up")
        self.assertEqual(read_order(kinds, "2 down, 0 up"), [(2, "down"), (0, "up")])
        self.assertEqual(written_order(kinds, [(1, "up")]), "1 up")

    def test_what_is_written_is_read_to_the_same(self):
        for kinds in EVERY_KINDS:
            for order in orders_of(kinds):
                with self.subTest(kinds=kinds, order=order):
                    text = written_order(kinds, order)
                    self.assertIs(type(text), str)
                    told = read_order(kinds, text)
                    self.assertEqual(told, order)
                    self.assertEqual([type(part) for part in told], [tuple] * len(order))

    def test_the_first_part_that_is_none(self):
        bad = ["", " ", "0", "up", "0 Up", "0 UP", "0  up", " 0 up", "0 up ", "0up", "0 up up", "00 up", "01 up",
               "-1 up", "+1 up", "100 up", "000 up", "0 up,", "0, up", "0 sideways", "a up", "0 u", "0 up,1 up", "1_ up",
               "0 down up", "( up", "1. up", ", ", "0 up;"]
        for part in bad:
            with self.subTest(part=part):
                self.refused(0, read_order, FOUR, part)
                self.refused(0, read_order, FOUR, part + ", 0 up")
                self.refused(1, read_order, FOUR, "0 up, " + part)
                self.refused(2, read_order, FOUR, "0 up, 0 up, " + part + ", 0 sideways")
        self.refused(1, read_order, FOUR, "0 up, ")
        self.refused(0, read_order, FOUR, ", 0 up")
        self.refused(1, read_order, FOUR, "0 up, , 1 up")

    def test_else_it_may_be_no_order(self):
        for text in ("4 up", "10 up", "99 down", "0 up, 0 up", "0 up, 1 down, 0 down", "3 up, 4 down", "40 up"):
            with self.subTest(text=text), self.assertRaises(BadOrder):
                read_order(FOUR, text)
        with self.assertRaises(BadOrder):
            read_order(("word",), "1 up")

    def test_no_part_goes_ahead_of_no_order(self):
        self.refused(2, read_order, FOUR, "7 up, 7 up, 0 ups")

    def test_kinds_go_ahead(self):
        for kinds in BAD_KINDS:
            with self.subTest(kinds=kinds):
                with self.assertRaises(BadKinds):
                    read_order(kinds, "none")
                with self.assertRaises(BadKinds):
                    written_order(kinds, [])

    def test_no_order_is_not_written(self):
        for order in BAD_ORDERS:
            with self.subTest(order=order), self.assertRaises(BadOrder):
                written_order(KINDS, order)

    def test_orders_are_not_changed_and_new_each_time(self):
        order = [(1, "down"), (0, "up")]
        text = written_order(KINDS, order)
        self.assertEqual(order, [(1, "down"), (0, "up")])
        told = read_order(KINDS, text)
        told.clear()
        self.assertEqual(read_order(KINDS, text), order)


class Plans(Case):
    def test_as_the_document_writes_them(self):
        self.assertEqual(written_plan([1] * 4, 3, (0, (3, 1), 2)), "( 0 ( 3 1 ) 2 )")
        self.assertEqual(read_plan([1] * 4, 3, "( 0 ( 3 1 ) 2 )"), (0, (3, 1), 2))
        self.assertEqual(written_plan([5], 2, 0), "0")
        self.assertEqual(read_plan([5], 2, "0"), 0)

    def test_what_is_written_is_read_to_the_same(self):
        for lengths in LENGTHS + [[1] * 12, [1] * 40]:
            for ways in range(2, 7):
                for plan in some_plans(len(lengths), ways):
                    with self.subTest(lengths=lengths, ways=ways, plan=plan):
                        text = written_plan(lengths, ways, plan)
                        self.assertIs(type(text), str)
                        self.assertEqual(read_plan(lengths, ways, text), plan)

    def test_forty_runs_of_any_depth(self):
        lengths = [3] * 40
        self.assertEqual(written_plan(lengths, 2, chain(40)),
                         "( " * 39 + "0 1 )" + "".join(f" {at} )" for at in range(2, 40)))
        flat = written_plan(lengths, 6, grouped(list(range(40)), 6))
        self.assertEqual(read_plan(lengths, 6, flat), grouped(list(range(40)), 6))

    def test_the_first_word_that_cannot_stand_there(self):
        for place, text in (
            (0, ""), (0, " "), (0, ")"), (0, "a"), (0, "00"), (0, "01"), (0, "100"), (0, "-1"), (0, "(0"), (0, "1)"),
            (0, "()"), (0, " 0"), (1, "0 "), (1, "0 1"), (1, "0 )"), (1, "0 ("), (1, "( )"), (1, "( ) 0"),
            (1, "(  0 1 )"), (2, "( 0  1 )"), (2, "( 0 1) )"), (2, "( ( )"), (2, "( ( ) )"), (4, "( 0 1 )  "),
            (4, "( 0 1 ) 2"), (4, "( 0 1 ) )"), (4, "( 0 1 ) ("), (4, "( 0 1 ) "), (3, "( 0 ( ) 1 )"), (3, "( 0 1 ]"),
            (2, "( 0 , 1 )"), (2, "( 0 000 )"), (6, "( ( 0 1 ) 2 (0 )"), (3, "( 0 ) )"),
            (1, "0 x ("), (2, "( 7 07 77"), (0, "0. 1"), (2, "( 0 +1 )"), (2, "( 0 1_ )"),
        ):
            with self.subTest(text=text):
                self.refused(place, read_plan, [1, 2], 2, text)

    def test_how_many_there_are_if_more_must_come(self):
        for place, text in ((1, "("), (2, "( ("), (2, "( 0"), (3, "( 0 1"), (3, "( ( 0"), (4, "( ( 0 )"),
                            (5, "( ( 0 1 )"), (5, "( 0 ( 1 )"), (2, "( 99")):
            with self.subTest(text=text):
                self.refused(place, read_plan, [1, 2], 2, text)
        self.refused(9000, read_plan, [1, 2], 2, "( " * 8999 + "(")

    def test_else_it_may_be_no_plan(self):
        for text in ("0", "1", "2", "40", "99", "( 0 )", "( 0 0 )", "( 0 2 )", "( 0 1 1 )", "( ( 0 ) 1 )", "( 0 99 )",
                     "( ( 0 1 ) )", "( ( ( 0 ) ) )"):
            with self.subTest(text=text), self.assertRaises(BadPlan):
                read_plan([1, 2], 2, text)
        with self.assertRaises(BadPlan):
            read_plan([1, 2], 2, "( " * 9000 + "0" + " )" * 9000)
        with self.assertRaises(BadPlan):
            read_plan([1, 2, 3], 2, "( 0 1 2 )")
        with self.assertRaises(BadPlan):
            read_plan([1] * 40, 2, "40")

    def test_no_word_goes_ahead_of_no_plan(self):
        self.refused(4, read_plan, [1, 2], 2, "( 7 7 7 x )")

    def test_no_plan_is_not_written(self):
        for lengths, ways, plan in bad_plans():
            with self.subTest(lengths=lengths, ways=ways), self.assertRaises(BadPlan):
                written_plan(lengths, ways, plan)

    def test_lengths_then_ways_go_ahead(self):
        for lengths in BAD_LENGTHS:
            with self.subTest(lengths=lengths):
                with self.assertRaises(BadLengths):
                    written_plan(lengths, 1, 0)
                with self.assertRaises(BadLengths):
                    read_plan(lengths, 1, "x")
        for ways in BAD_WAYS:
            with self.subTest(ways=ways):
                with self.assertRaises(BadRoom):
                    written_plan([1, 2], ways, 0)
                with self.assertRaises(BadRoom):
                    read_plan([1, 2], ways, "x")


if __name__ == "__main__":
    unittest.main()
