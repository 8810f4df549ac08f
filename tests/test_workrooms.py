"""Workrooms, their deeds, and what is taken back: the points [33] and [34]."""

import inspect
import random
import unittest

from helpers import PINWHEEL, cells_as_patches, chance_patches, fault_of, fitting_pattern
from sewnwhole.assemblies import Assembly
from sewnwhole.errors import SewnError, WorkroomError
from sewnwhole.fabric import fabric_needed
from sewnwhole.patches import fits
from sewnwhole.workrooms import Workroom

CELL = (("a",),)
CELL_PATCHES = ((0, 0, 1, 1),)
TWO = (("a", "b/c"),)
TWO_PATCHES = cells_as_patches(1, 2)
NOT_FITTING = ((0, 0, 1, 2),)


def state(workroom):
    """Return all that a workroom tells of itself."""
    return (workroom.stock, workroom.orders, workroom.totals, len(workroom),
            [number for number in range(-1, 63) if number in workroom])


def filled(**areas):
    """Return a workroom with areas of fabrics."""
    workroom = Workroom()
    for fabric, area in areas.items():
        workroom.buy(fabric, area)
    return workroom


class Model:
    """A workroom that knows its deeds alone, and goes through them again whenever it is asked."""

    def __init__(self):
        self.deeds = []

    def reckoned(self):
        """Return the triple (bought, stock, orders) of dicts; an order is a list [areas, open, started]."""
        bought, stock, orders = 0, {}, {}
        for deed, *told in self.deeds:
            if deed == "buy":
                bought += told[1]
                stock[told[0]] = stock.get(told[0], 0) + told[1]
            elif deed == "take":
                orders[len(orders) + 1] = [dict(fabric_needed(*told)), True, False]
                for fabric, area in fabric_needed(*told):
                    stock[fabric] -= area
            elif deed == "cancel":
                orders[told[0]][1] = False
                for fabric, area in orders[told[0]][0].items():
                    stock[fabric] += area
            else:
                orders[told[0]][2] = True
        return bought, {fabric: area for fabric, area in stock.items() if area}, orders

    def fault(self, deed, *told):
        """Return the fault of a deed by the words of [33], or None."""
        _, stock, orders = self.reckoned()
        if deed == "buy":
            return "too much" if stock.get(told[0], 0) + told[1] > 1000000000 else None
        if deed == "take":
            if not fits(*told[:2]):
                return "patches do not fit"
            if len(orders) >= 60:
                return "too many orders"
            needed = fabric_needed(*told)
            return "not enough" if any(stock.get(fabric, 0) < area for fabric, area in needed) else None
        if told[0] not in orders or not orders[told[0]][1]:
            return "no such order"
        return "already started" if orders[told[0]][2] else None

    def told(self):
        bought, stock, orders = self.reckoned()
        numbers = [(number, order[2]) for number, order in orders.items() if order[1]]
        taken = sum(sum(orders[number][0].values()) for number, _ in numbers)
        return (sorted(stock.items()), numbers, (bought, sum(stock.values()), taken), len(numbers),
                [number for number, _ in numbers])


class WorkroomTestCase(unittest.TestCase):
    def assert_refused(self, workroom, what, deed, *arguments):
        """Assert that a deed has a fault, and then nothing is changed, neither what would be taken back."""
        before = state(workroom)
        self.assertEqual(fault_of(WorkroomError, getattr(workroom, deed), *arguments), (what,))
        self.assertEqual(state(workroom), before)


class NewWorkroomTest(WorkroomTestCase):
    def test_without_stock_and_orders(self):
        self.assertEqual(state(Workroom()), ([], [], (0, 0, 0), 0, []))

    def test_each_one_is_its_own(self):
        one, other = Workroom(), Workroom()
        one.buy("a", 100)
        one.take(CELL, CELL_PATCHES, 1, 0)
        self.assertEqual(state(other), state(Workroom()))
        self.assertIs(other.undo(), False)

    def test_methods_and_properties_stand_in_the_class(self):
        for name in ("stock", "orders", "totals"):
            self.assertIsInstance(vars(Workroom)[name], property, name)
        methods = {"buy": ["fabric", "area"], "take": ["pattern", "patches", "cell_size", "allowance"],
                   "cancel": ["order"], "start": ["order"], "undo": []}
        for name, parameters in methods.items():
            self.assertEqual(list(inspect.signature(vars(Workroom)[name]).parameters), ["self", *parameters])
        for name in ("__init__", "__len__", "__contains__"):
            self.assertIn(name, vars(Workroom))

    def test_properties_have_no_setters(self):
        workroom = Workroom()
        for name in ("stock", "orders", "totals"):
            with self.assertRaises(AttributeError, msg=name):
                setattr(workroom, name, getattr(workroom, name))

    def test_arguments_are_named_as_told(self):
        workroom = Workroom()
        self.assertEqual(workroom.buy(fabric="a", area=9), 9)
        self.assertEqual(workroom.take(pattern=CELL, patches=CELL_PATCHES, cell_size=1, allowance=0), 1)
        self.assertIsInstance(workroom.start(order=1), Assembly)
        workroom.undo()
        self.assertEqual(workroom.cancel(order=1), [("a", 2)])

    def test_the_error_is_one_of_the_program(self):
        self.assertTrue(issubclass(WorkroomError, SewnError))


class BuyTest(WorkroomTestCase):
    def test_the_stock_of_the_fabric_then(self):
        workroom = Workroom()
        self.assertEqual([workroom.buy("b", 5), workroom.buy("a", 7), workroom.buy("b", 1)], [5, 7, 6])
        self.assertEqual(workroom.stock, [("a", 7), ("b", 6)])
        self.assertEqual(workroom.totals, (13, 13, 0))

    def test_the_limit_of_the_stock(self):
        workroom = Workroom()
        for _ in range(1000):
            workroom.buy("a", 1000000)
        self.assertEqual(workroom.stock, [("a", 1000000000)])
        self.assert_refused(workroom, "too much", "buy", "a", 1)
        self.assertEqual(workroom.buy("b", 1000000), 1000000)
        workroom.undo()
        workroom.undo()
        self.assertEqual(workroom.buy("a", 999999), 999999999)
        self.assert_refused(workroom, "too much", "buy", "a", 2)
        self.assertEqual(workroom.buy("a", 1), 1000000000)

    def test_what_was_taken_does_not_count_to_the_limit(self):
        workroom = Workroom()
        for _ in range(1000):
            workroom.buy("a", 1000000)
        workroom.take(CELL, CELL_PATCHES, 1, 0)
        self.assertEqual(workroom.buy("a", 2), 1000000000)
        # Only buying has the limit: what a canceled order took comes back all the same.
        self.assertEqual(workroom.cancel(1), [("a", 2)])
        self.assertEqual(workroom.stock, [("a", 1000000002)])
        self.assertEqual(workroom.totals, (1000000002, 1000000002, 0))
        self.assert_refused(workroom, "too much", "buy", "a", 1)


class TakeTest(WorkroomTestCase):
    def test_numbers_from_one_and_what_is_taken(self):
        workroom = filled(a=1000, b=1000, c=1000)
        self.assertEqual(workroom.take(TWO, TWO_PATCHES, 4, 1), 1)
        self.assertEqual(workroom.take(CELL, CELL_PATCHES, 5, 0), 2)
        self.assertEqual(workroom.orders, [(1, False), (2, False)])
        self.assertEqual(workroom.stock, [("a", 1000 - 72 - 50), ("b", 951), ("c", 951)])
        self.assertEqual(workroom.totals, (3000, 2780, 220))

    def test_just_enough_and_one_less(self):
        workroom = filled(a=50)
        self.assertEqual(workroom.take(CELL, CELL_PATCHES, 5, 0), 1)
        self.assertEqual(workroom.stock, [])
        self.assert_refused(filled(a=49), "not enough", "take", CELL, CELL_PATCHES, 5, 0)
        self.assert_refused(Workroom(), "not enough", "take", CELL, CELL_PATCHES, 1, 0)

    def test_not_enough_of_one_fabric_of_several(self):
        self.assert_refused(filled(a=1000, b=49), "not enough", "take", TWO, TWO_PATCHES, 4, 1)
        self.assert_refused(filled(a=1000, b=49, c=48), "not enough", "take", TWO, TWO_PATCHES, 4, 1)
        self.assert_refused(filled(a=71, b=49, c=49), "not enough", "take", TWO, TWO_PATCHES, 4, 1)
        self.assertEqual(filled(a=72, b=49, c=49, z=1).take(TWO, TWO_PATCHES, 4, 1), 1)

    def test_patches_that_do_not_fit(self):
        workroom = filled(a=1000, b=1000, c=1000)
        for pattern, patches in ((TWO, NOT_FITTING), (CELL, NOT_FITTING), (CELL, PINWHEEL), (TWO, CELL_PATCHES)):
            self.assert_refused(workroom, "patches do not fit", "take", pattern, patches, 4, 1)
        self.assertEqual(workroom.take(TWO, TWO_PATCHES, 4, 1), 1)

    def test_the_sixtieth_order_and_the_next_one(self):
        workroom = filled(a=1000)
        for number in range(1, 61):
            self.assertEqual(workroom.take(CELL, CELL_PATCHES, 1, 0), number)
        self.assert_refused(workroom, "too many orders", "take", CELL, CELL_PATCHES, 1, 0)
        # Canceled orders have been taken all the same.
        workroom.cancel(60)
        self.assert_refused(workroom, "too many orders", "take", CELL, CELL_PATCHES, 1, 0)
        workroom.undo()
        workroom.undo()
        self.assertEqual(workroom.take(CELL, CELL_PATCHES, 1, 0), 60)
        self.assertEqual(len(workroom), 60)

    def test_which_fault_comes_first(self):
        workroom = filled(a=120)
        self.assert_refused(workroom, "patches do not fit", "take", CELL, NOT_FITTING, 40, 10)
        for _ in range(60):
            workroom.take(CELL, CELL_PATCHES, 1, 0)
        self.assert_refused(workroom, "patches do not fit", "take", CELL, NOT_FITTING, 1, 0)
        self.assert_refused(workroom, "too many orders", "take", CELL, CELL_PATCHES, 1, 0)
        self.assertEqual(workroom.stock, [])


class CancelTest(WorkroomTestCase):
    def test_the_areas_are_in_stock_again(self):
        workroom = filled(a=100, b=100, c=100)
        before = workroom.stock
        workroom.take(TWO, TWO_PATCHES, 4, 1)
        self.assertEqual(workroom.cancel(1), [("a", 72), ("b", 49), ("c", 49)])
        self.assertEqual(workroom.stock, before)
        self.assertEqual((workroom.orders, len(workroom), workroom.totals), ([], 0, (300, 300, 0)))

    def test_other_orders_keep_their_numbers(self):
        workroom = filled(a=100)
        for _ in range(3):
            workroom.take(CELL, CELL_PATCHES, 1, 0)
        workroom.cancel(2)
        self.assertEqual(workroom.orders, [(1, False), (3, False)])
        self.assertEqual(workroom.take(CELL, CELL_PATCHES, 1, 0), 4)

    def test_no_such_order(self):
        workroom = filled(a=100)
        workroom.take(CELL, CELL_PATCHES, 1, 0)
        for number in (0, -1, 2, 61, 10 ** 20):
            self.assert_refused(workroom, "no such order", "cancel", number)
        workroom.cancel(1)
        self.assert_refused(workroom, "no such order", "cancel", 1)
        self.assert_refused(Workroom(), "no such order", "cancel", 1)

    def test_already_started(self):
        workroom = filled(a=100)
        workroom.take(CELL, CELL_PATCHES, 1, 0)
        workroom.start(1)
        self.assert_refused(workroom, "already started", "cancel", 1)

    def test_the_returned_list_is_new(self):
        workroom = filled(a=100)
        workroom.take(CELL, CELL_PATCHES, 1, 0)
        workroom.cancel(1).append(("z", 5))
        self.assertEqual(workroom.stock, [("a", 100)])
        workroom.undo()
        self.assertEqual(workroom.totals, (100, 98, 2))
        self.assertEqual(workroom.cancel(1), [("a", 2)])


class StartTest(WorkroomTestCase):
    def test_a_new_assembly(self):
        workroom = filled(a=10000)
        pattern = (("a",) * 3,) * 3
        workroom.take(pattern, PINWHEEL, 1, 1)
        assembly = workroom.start(1)
        self.assertEqual(assembly, Assembly(pattern, PINWHEEL))
        self.assertEqual(workroom.orders, [(1, True)])
        self.assertEqual((len(workroom), 1 in workroom), (1, True))

    def test_the_stock_is_as_it_was(self):
        workroom = filled(a=100)
        workroom.take(CELL, CELL_PATCHES, 1, 0)
        workroom.start(1)
        self.assertEqual((workroom.stock, workroom.totals), ([("a", 98)], (100, 98, 2)))

    def test_no_such_order(self):
        workroom = filled(a=100)
        workroom.take(CELL, CELL_PATCHES, 1, 0)
        for number in (0, -1, 2, 61, 10 ** 20):
            self.assert_refused(workroom, "no such order", "start", number)
        workroom.cancel(1)
        self.assert_refused(workroom, "no such order", "start", 1)

    def test_already_started(self):
        workroom = filled(a=100)
        workroom.take(CELL, CELL_PATCHES, 1, 0)
        workroom.start(1)
        self.assert_refused(workroom, "already started", "start", 1)

    def test_each_order_has_its_own_pattern_and_patches(self):
        workroom = filled(a=1000, b=1000, c=1000)
        workroom.take(TWO, TWO_PATCHES, 1, 0)
        workroom.take(TWO, TWO_PATCHES[::-1], 1, 0)
        second, first = workroom.start(2), workroom.start(1)
        self.assertEqual((first.patches, second.patches), (TWO_PATCHES, TWO_PATCHES[::-1]))


class UndoTest(WorkroomTestCase):
    def test_nothing_to_take_back(self):
        self.assertIs(Workroom().undo(), False)
        workroom = filled(a=1)
        self.assertEqual([workroom.undo(), workroom.undo(), workroom.undo()], ["buy", False, False])

    def test_each_deed_alone(self):
        workroom = filled(a=100)
        deeds = [("buy", ("b", 5)), ("take", (CELL, CELL_PATCHES, 1, 0)), ("take", (CELL, CELL_PATCHES, 2, 0)),
                 ("cancel", (1,)), ("start", (2,)), ("buy", ("a", 3))]
        for name, arguments in deeds:
            before = state(workroom)
            getattr(workroom, name)(*arguments)
            self.assertNotEqual(state(workroom), before)
            self.assertEqual(workroom.undo(), name)
            self.assertEqual(state(workroom), before)
            getattr(workroom, name)(*arguments)

    def test_all_deeds_one_after_the_other(self):
        workroom = Workroom()
        states, names = [], []
        for name, arguments in (("buy", ("a", 100)), ("take", (CELL, CELL_PATCHES, 1, 0)), ("buy", ("c", 1)),
                                ("take", (CELL, CELL_PATCHES, 2, 1)), ("start", (1,)), ("cancel", (2,)),
                                ("take", (CELL, CELL_PATCHES, 1, 0)), ("buy", ("a", 1)), ("start", (3,))):
            states.append(state(workroom))
            names.append(name)
            getattr(workroom, name)(*arguments)
        for name, before in zip(names[::-1], states[::-1]):
            self.assertEqual(workroom.undo(), name)
            self.assertEqual(state(workroom), before)
        self.assertIs(workroom.undo(), False)

    def test_refused_deeds_are_no_deeds(self):
        workroom = filled(a=100)
        workroom.take(CELL, CELL_PATCHES, 1, 0)
        self.assert_refused(workroom, "not enough", "take", CELL, CELL_PATCHES, 40, 0)
        self.assert_refused(workroom, "patches do not fit", "take", CELL, NOT_FITTING, 1, 0)
        self.assert_refused(workroom, "no such order", "cancel", 2)
        self.assert_refused(workroom, "no such order", "start", 0)
        self.assert_refused(workroom, "too much", "buy", "a", 1000000000)
        self.assertEqual([workroom.undo(), workroom.undo(), workroom.undo()], ["take", "buy", False])

    def test_an_order_that_was_taken_back_is_not_counted(self):
        workroom = filled(a=100)
        workroom.take(CELL, CELL_PATCHES, 1, 0)
        workroom.undo()
        self.assertEqual((workroom.orders, workroom.stock), ([], [("a", 100)]))
        self.assert_refused(workroom, "no such order", "start", 1)
        self.assertEqual(workroom.take(CELL, CELL_PATCHES, 3, 0), 1)
        self.assertEqual(workroom.cancel(1), [("a", 18)])

    def test_an_order_that_was_canceled_and_taken_back_is_there_again(self):
        workroom = filled(a=100)
        workroom.take(CELL, CELL_PATCHES, 1, 0)
        workroom.take(CELL, CELL_PATCHES, 2, 0)
        workroom.cancel(1)
        self.assertEqual(workroom.undo(), "cancel")
        self.assertEqual(workroom.orders, [(1, False), (2, False)])
        self.assertEqual(workroom.totals, (100, 90, 10))
        self.assertEqual(workroom.cancel(1), [("a", 2)])

    def test_a_start_that_was_taken_back(self):
        workroom = filled(a=100)
        workroom.take(CELL, CELL_PATCHES, 1, 0)
        workroom.start(1)
        self.assertEqual(workroom.undo(), "start")
        self.assertEqual(workroom.orders, [(1, False)])
        workroom.start(1)
        workroom.undo()
        self.assertEqual(workroom.cancel(1), [("a", 2)])

    def test_assemblies_that_were_returned_are_not_changed(self):
        workroom = filled(a=1000, b=1000, c=1000)
        workroom.take(TWO, TWO_PATCHES, 1, 0)
        assembly = workroom.start(1)
        assembly.join(0, 1)
        workroom.undo()
        self.assertEqual((assembly.sections, assembly.sewn_length), ([((0, 1), (0, 0, 1, 2))], 1))
        other = workroom.start(1)
        self.assertEqual((len(other), len(assembly)), (2, 1))
        workroom.undo()
        workroom.undo()
        self.assertEqual((assembly.is_complete, assembly.rip()), (True, 1))


class TotalsTest(WorkroomTestCase):
    def test_after_each_deed(self):
        workroom = Workroom()
        totals = []
        for name, arguments in (("buy", ("a", 100)), ("buy", ("b", 10)), ("take", (CELL, CELL_PATCHES, 1, 1)),
                                ("take", (CELL, CELL_PATCHES, 2, 0)), ("start", (1,)), ("cancel", (2,)), ("undo", ()),
                                ("undo", ()), ("undo", ()), ("undo", ()), ("undo", ()), ("undo", ()), ("undo", ())):
            getattr(workroom, name)(*arguments)
            totals.append(workroom.totals)
        self.assertEqual(totals, [
            (100, 100, 0), (110, 110, 0), (110, 92, 18), (110, 84, 26), (110, 84, 26), (110, 92, 18), (110, 84, 26),
            (110, 84, 26), (110, 92, 18), (110, 110, 0), (100, 100, 0), (0, 0, 0), (0, 0, 0),
        ])

    def test_deeds_by_lot_as_in_a_model(self):
        lot = random.Random(331)
        seen = set()
        for _ in range(25):
            workroom, model = Workroom(), Model()
            for _ in range(120):
                deed = lot.choice(("buy", "buy", "take", "take", "take", "cancel", "start", "undo", "undo"))
                if deed == "undo":
                    expected = model.deeds.pop()[0] if model.deeds else False
                    self.assertEqual(workroom.undo(), expected)
                    self.assertEqual(state(workroom), model.told())
                    continue
                arguments = [lot.randint(0, 8)]
                if deed == "buy":
                    arguments = [lot.choice("abc"), lot.choice((300, 1000, 1000000, 999999700))]
                if deed == "take":
                    patches = chance_patches(lot, lot.randint(1, 2), lot.randint(1, 2))
                    pattern = fitting_pattern(lot, patches)
                    arguments = [lot.choice((pattern, pattern, pattern, CELL)), patches,
                                 lot.choice((1, 2, 40)), lot.choice((0, 1))]
                what = model.fault(deed, *arguments)
                seen.add((deed, what))
                self.assertEqual(fault_of(WorkroomError, getattr(workroom, deed), *arguments), what and (what,))
                if what is None:
                    model.deeds.append((deed, *arguments))
                self.assertEqual(state(workroom), model.told())
                bought, in_stock, taken = workroom.totals
                self.assertEqual(bought, in_stock + taken)
        self.assertLessEqual({("buy", "too much"), ("take", "patches do not fit"), ("take", "not enough"),
                              ("cancel", "no such order"), ("cancel", "already started"), ("start", "no such order"),
                              ("start", "already started"), ("take", None), ("cancel", None), ("start", None)}, seen)


class AskTest(WorkroomTestCase):
    def setUp(self):
        self.workroom = filled(a=1000)
        for _ in range(3):
            self.workroom.take(CELL, CELL_PATCHES, 1, 0)
        self.workroom.cancel(2)
        self.workroom.start(3)

    def test_orders_that_are_there(self):
        self.assertIs(1 in self.workroom, True)
        self.assertIs(3 in self.workroom, True)
        self.assertEqual(len(self.workroom), 2)
        self.assertEqual(self.workroom.orders, [(1, False), (3, True)])

    def test_values_of_any_kind(self):
        for value in (0, 2, 4, -1, -3, 10 ** 20, None, "", "1", b"1", 1.5, (), (1,), (1, False), [], [1], {}, {1: 1},
                      set(), {1}, object(), Workroom(), self.workroom, True, False, len, int):
            self.assertIs(value in self.workroom, False, value)
            self.assertIs(value not in self.workroom, True, value)

    def test_values_that_cannot_be_compared(self):
        class Silent:
            def __eq__(self, other):
                raise RuntimeError("not to be compared")

            __hash__ = None

        self.assertIs(Silent() in self.workroom, False)

    def test_lists_that_were_returned_and_are_modified(self):
        before = state(self.workroom)
        self.workroom.stock.clear()
        self.workroom.stock.append(("z", 1))
        self.workroom.orders.clear()
        self.workroom.orders.append((2, False))
        self.assertEqual(state(self.workroom), before)
        self.assertEqual((type(self.workroom.stock), type(self.workroom.orders), type(self.workroom.totals)),
                         (list, list, tuple))

    def test_stock_tells_only_what_there_is_in_alphabetical_order(self):
        workroom = filled(z=2, a=2, m=1)
        self.assertEqual(workroom.stock, [("a", 2), ("m", 1), ("z", 2)])
        workroom.take(CELL, CELL_PATCHES, 1, 0)
        self.assertEqual(workroom.stock, [("m", 1), ("z", 2)])


if __name__ == "__main__":
    unittest.main()
