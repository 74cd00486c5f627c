"""Point 32: the errors of workshops."""

import unittest
from unittest import mock

from missesnone.errors import BadEdit, BadTest, MissError, UnknownEdit, WorkshopFull
from missesnone.programs import Program, cells, row_at
from missesnone.workshops import Workshop
from samples import as_lists, as_tuples, example, ledger, parts_replaced, shown
from workshop_models import snapshot

HUGE = 10 ** 5000
LOW = ((0, "low", 0),)
OTHERS = (None, True, False, -1, HUGE, -HUGE, "", "0", "put", "out", "low", [], (), [0], (0,), [[]], {}, {0: 1}, set(),
          b"", b"low", 0.0, 1.0, 1.5, mock.ANY, object(), [None], [True])


def used():
    """A workshop with an edit in force, one that is undone, and a test that was run."""
    workshop = Workshop(ledger())
    workshop.edit(1, (0, 0, 0), (1, (0,), LOW))
    workshop.edit(2, (0, 1, 0), (0, (), ()))
    workshop.undo(1)
    workshop.test([("put", 5), ("take", 3)], [(("out", "low", 5),), ()])
    workshop.verdicts()
    return workshop


class Errors(unittest.TestCase):
    def refuse(self, workshop, error, method, *passed):
        before = snapshot(workshop)
        with self.subTest((method, shown(passed)[:200])):
            with self.assertRaises(MissError) as caught:
                getattr(workshop, method)(*passed)
            self.assertIs(type(caught.exception), error)
            self.assertEqual(snapshot(workshop), before)
            if error is UnknownEdit:
                self.assertIs(caught.exception.number, passed[0])

    def take(self, workshop, method, *passed):
        before = workshop.events()
        getattr(workshop, method)(*passed)
        self.assertEqual(workshop.events()[:-1], before)
        self.assertEqual(workshop.size, len(before) + 1)


class BadEdits(Errors):
    def test_hands(self):
        workshop = used()
        for hand in range(10):
            self.take(workshop, "edit", hand, (0, 0, 0), (1, (0,), ()))
        for hand in (*OTHERS, 10, 11, -10, "1"):
            self.refuse(workshop, BadEdit, "edit", hand, (0, 0, 0), (1, (0,), ()))

    def test_all_cells_with_their_rows_and_no_others(self):
        workshop = Workshop(ledger())
        program = ledger()
        for mode in range(-1, 6):
            for name in range(-1, 4):
                for position in range(-1, 9):
                    cell = (mode, name, position)
                    if cell in cells(program):
                        self.take(workshop, "edit", 0, cell, row_at(program, cell))
                    else:
                        for row in ((0, (), ()), (1, (0,), ())):
                            self.refuse(workshop, BadEdit, "edit", 0, cell, row)

    def test_cells_of_other_kinds(self):
        row = (0, (), ())
        workshop = used()
        self.take(workshop, "edit", 0, [0, 1, 0], row)
        for cell in (*OTHERS, "000", (0, 1), (0, 1, 0, 0), (0,), [0, 1], (0, "put", 0), ("a", 1, 0), ((0,), 1, 0)):
            self.refuse(workshop, BadEdit, "edit", 0, cell, row)
        for at in range(3):
            for other in OTHERS:
                cell = [0, 1, 0]
                cell[at] = other
                self.refuse(workshop, BadEdit, "edit", 0, tuple(cell), row)
        # True is the index of a name and of a position that exist.
        self.take(workshop, "edit", 0, (1, 1, 1), row)
        for cell in ((True, 1, 1), (1, True, 1), (1, 1, True), (False, 1, 0), (0, 1, False)):
            self.refuse(workshop, BadEdit, "edit", 0, cell, row)

    def test_next_modes(self):
        workshop = used()
        for mode, kept in enumerate([(), (0,), (0, 1), (0, 1, 2)]):
            self.take(workshop, "edit", 0, (2, 0, 2), (mode, kept, ()))
        for mode in (*OTHERS, 4, 5, -4, "a"):
            for kept in ((), (0,), (0, 1), (0, 1, 2)):
                self.refuse(workshop, BadEdit, "edit", 0, (2, 0, 2), (mode, kept, ()))

    def test_candidates_held(self):
        for cell, many in [((0, 0, 0), 1), ((1, 0, 0), 2), ((1, 0, 1), 1), ((1, 0, 2), 2), ((2, 1, 2), 3),
                           ((2, 1, 3), 2), ((3, 0, 5), 3), ((3, 0, 6), 4)]:
            workshop = used()
            for mode, count in enumerate((0, 1, 2, 3)):
                for kept in [(), (0,), (1,), (2,), (3,), (4,), (0, 1), (1, 2), (0, 3), (2, 3), (1, 0), (0, 0), (3, 3),
                             (0, 1, 2), (0, 1, 3), (1, 2, 3), (2, 1, 0), (0, 0, 1), (0, 1, 2, 3), (0, 2, 4), (-1,),
                             (-1, 0), (0, -1), (-2, -1, 0)]:
                    right = len(kept) == count and list(kept) == sorted(set(kept)) and set(kept) <= set(range(many))
                    if right:
                        self.take(workshop, "edit", 0, cell, (mode, kept, ()))
                        workshop = used()
                    else:
                        self.refuse(workshop, BadEdit, "edit", 0, cell, (mode, kept, ()))

    def test_candidates_held_of_other_kinds(self):
        workshop = used()
        self.take(workshop, "edit", 0, (2, 0, 2), (2, [0, 1], []))
        for kept in (*OTHERS, "01", ("0", "1"), (False, True), (0, True), (0, 1.0), (None, None), ((0,), (1,)),
                     (0, [1])):
            self.refuse(workshop, BadEdit, "edit", 0, (2, 0, 2), (2, kept, ()))
        for kept in ((False,), (True,), "0", ["0"], ((0,),), None, 0):
            self.refuse(workshop, BadEdit, "edit", 0, (2, 0, 2), (1, kept, ()))
        for kept in (None, 0, "", False, {}, set(), b""):
            self.refuse(workshop, BadEdit, "edit", 0, (2, 0, 2), (0, kept, ()))

    def test_writes(self):
        workshop = used()
        write = (0, "high", 1)
        for writes in ((), (write,), (write,) * 4, [list(write)], ((0, "put", 0), (1, "seen", 1), (0, "low", 0))):
            self.take(workshop, "edit", 0, (1, 0, 2), (0, (), writes))
        for writes in (*[other for other in OTHERS if other not in ((), [])], (write,) * 5, [write] * 6, write, "abc",
                       (None,), (write, None), (write, ()), (write, write, write, write, None), [[]], ("abc",)):
            self.refuse(workshop, BadEdit, "edit", 0, (1, 0, 2), (0, (), writes))

    def test_each_write(self):
        for cell, many in [
            ((0, 0, 0), 1), ((1, 0, 0), 2), ((1, 0, 1), 1), ((2, 1, 4), 3), ((3, 0, 3), 3), ((3, 1, 0), 4),
        ]:
            workshop = used()
            for port in (-2, -1, 0, 1, 2, 3, True, False, None, "out", [0], 0.0, HUGE):
                for label in ("low", "high", "put", "seen", "out", "", "lo", None, 0, ["low"], ("low",), b"low"):
                    for source in (-1, 0, 1, 2, 3, 4, True, False, None, "0", (0,), HUGE):
                        labels = {"0x0": ("low", "high", "put"), "0x1": ("low", "seen")}.get(shown(port), ())
                        right = label in labels and shown(source) in [hex(at) for at in range(many)]
                        row = (0, (), ((port, label, source),))
                        if right:
                            self.take(workshop, "edit", 0, cell, row)
                        elif source in (0, 1) or port in (0, 1):
                            with self.assertRaises(BadEdit):
                                workshop.edit(0, cell, row)
            self.refuse(workshop, BadEdit, "edit", 0, cell, (0, (), ((1, "low", many),)))

    def test_writes_of_other_kinds(self):
        workshop = used()
        row = (2, (0, 1), ((0, "low", 0), (1, "seen", 2)))
        self.take(workshop, "edit", 0, (2, 0, 2), row)
        for write in (*OTHERS, "abc", (0, "low"), (0, "low", 0, 0), ("out", "low", 0), ("low", 0, 0)):
            for at in range(2):
                writes = [*row[2][:at], write, *row[2][at + 1:]]
                self.refuse(workshop, BadEdit, "edit", 0, (2, 0, 2), (2, (0, 1), writes))

    def test_rows_of_other_kinds(self):
        workshop = used()
        row = (0, (), ())
        self.take(workshop, "edit", 0, (0, 1, 0), list(row))
        for other in (*OTHERS, "000", (0, ()), (0, (), (), ()), (0,), ((0, (), ()),), row[::-1]):
            self.refuse(workshop, BadEdit, "edit", 0, (0, 1, 0), other)

    def test_each_part_replaced(self):
        row = (1, (0,), ((0, "low", 0), (1, "seen", 1)))
        for other in (None, True, False, -1, 4, 9, HUGE, "", "0", "out", {}, 0.0, b"low", mock.ANY, object(), [True],
                      [None]):
            for cell in parts_replaced((1, 0, 0), other):
                self.refuse(used(), BadEdit, "edit", 0, cell, row)
            for value in parts_replaced(row, other):
                self.refuse(used(), BadEdit, "edit", 0, (1, 0, 0), value)
                self.refuse(used(), BadEdit, "edit", 0, (1, 0, 0), as_lists(value))

    def test_rows_fit_the_base(self):
        workshop = Workshop(Program(("a",), [("out", ("low",))], [("m", 0), ("n", 0)], []))
        self.take(workshop, "edit", 0, (0, 0, 0), (1, (), LOW))
        self.refuse(workshop, BadEdit, "edit", 0, (0, 0, 0), (1, (0,), ()))
        self.refuse(workshop, BadEdit, "edit", 0, (2, 0, 0), (1, (), ()))


class BadTests(Errors):
    def test_inputs(self):
        workshop = used()
        for events in ([("put", 1)], (("take", -4),), [["put", 0]], (["put", 1], ("take", 1), ["put", HUGE % 97])):
            self.take(workshop, "test", events, [()] * len(events))
        for events in (*OTHERS, "put", ["put"], [("put",)], [("put", 1, 1)], [("put", 1), None], ("put", 1), [["put"]],
                       [("puts", 1)], [("pu", 1)], [("out", 1)], [("a", 1)], [("Put", 1)], [(1, "put")], [(None, 1)],
                       [(["put"], 1)], [(("put",), 1)], [(0, 1)], [(True, 1)], [(b"put", 1)], [("put", None)],
                       [("put", "1")], [("put", True)], [("put", False)], [("put", 1.0)], [("put", [1])],
                       [("put", (1,))],
                       [{"put": 1, "take": 1}], [{"put", 1}], {("put", 1): None}, {("put", 1)}):
            for outputs in ([], [()], [(), ()], [(), (), ()]):
                self.refuse(workshop, BadTest, "test", events, outputs)

    def test_no_events(self):
        for events in ([], ()):
            for outputs in ([], (), [()], None):
                self.refuse(used(), BadTest, "test", events, outputs)

    def test_outputs(self):
        workshop = used()
        events = [("put", 1), ("take", 2)]
        one = ("out", "low", 3)
        for outputs in ([(), ()], ((), ()), [[], ()], [(one,), (one, one, one, one)],
                        [[list(one)], [one, ["log", "seen", -3]]],
                        [(("out", "put", 0),), (("log", "low", 1),)]):
            self.take(workshop, "test", events, outputs)
        for outputs in (*OTHERS, [()], [(), (), ()], "ab", [(), None], [None, ()], [(), "ab"], [(), 0], [True, ()],
                        [(one,) * 5, ()], [(), [one] * 5], [(), (None,)], [(), ("abc",)], [one, one], [(), one],
                        [(), (one, ())], [(), (one[:2],)], [(), ((*one, 1),)], {(): 1, (1,): 2}, [{}, {}], [set(), ()],
                        [(), {one: 1}], [(), [{"out": 1, "low": 2, "x": 3}]]):
            self.refuse(workshop, BadTest, "test", events, outputs)

    def test_each_write_that_is_due(self):
        workshop = used()
        for port in ("out", "log", "ou", "", "put", "low", None, 0, True, ["out"], ("out",), b"out"):
            for label in ("low", "high", "put", "seen", "lo", "", "out", None, 0, True, ["low"], b"low"):
                for number in (0, 1, -1, True, False, None, "1", 1.0, [1], (1,), 10 ** 30):
                    labels = {"'out'": ("low", "high", "put"), "'log'": ("low", "seen")}.get(shown(port), ())
                    if label in labels and shown(number) in ("0x0", "0x1", "-0x1"):
                        self.take(workshop, "test", [("put", 1)], [((port, label, number),)])
                    else:
                        with self.assertRaises(BadTest):
                            workshop.test([("put", 1)], [((port, label, number),)])

    def test_integers_of_30_and_31_digits(self):
        workshop = used()
        longest = 10 ** 30 - 1
        for number in (longest, -longest, 10 ** 29, -10 ** 29):
            self.assertEqual(len(str(abs(number))), 30)
            self.take(workshop, "test", [("put", number)], [()])
            self.take(workshop, "test", [("put", 0)], [(("out", "low", number),)])
        for number in (10 ** 30, -10 ** 30, 10 ** 30 + 1, 10 ** 31, HUGE, -HUGE):
            self.refuse(workshop, BadTest, "test", [("put", number)], [()])
            self.refuse(workshop, BadTest, "test", [("put", 0), ("take", number)], [(), ()])
            self.refuse(workshop, BadTest, "test", [("put", 0)], [(("out", "low", number),)])
            self.refuse(workshop, BadTest, "test", [("put", 0), ("put", 1)], [
                (), (("out", "low", 1), ("out", "low", number))])
        self.assertEqual(len(workshop.verdicts()), 9)

    def test_each_part_replaced(self):
        events, outputs = (("put", 1), ("take", 2)), ((("out", "low", 1), ("log", "seen", 2)), (("log", "low", 3),))
        for other in (None, True, False, HUGE, "", "0", "at", {}, 0.0, b"low", mock.ANY, object(), [True], [None],
                      (None,)):
            for value in parts_replaced(events, other):
                self.refuse(used(), BadTest, "test", value, outputs)
                self.refuse(used(), BadTest, "test", as_lists(value), as_lists(outputs))
            for value in parts_replaced(outputs, other):
                self.refuse(used(), BadTest, "test", events, value)
                self.refuse(used(), BadTest, "test", as_lists(events), as_lists(value))


class UnknownEdits(Errors):
    def test_undone_and_redone(self):
        workshop = used()
        for number in (*OTHERS, 1, 2, 3, -2, "1", [1]):
            self.refuse(workshop, UnknownEdit, "undo", number)
        for number in (*OTHERS, 0, 2, 3, -1, -2, "1", [1]):
            self.refuse(workshop, UnknownEdit, "redo", number)
        self.take(workshop, "redo", 1)
        for number in (*OTHERS, 0, 1, 2):
            self.refuse(workshop, UnknownEdit, "redo", number)
        self.take(workshop, "undo", 0)
        self.take(workshop, "undo", 1)
        for number in (*OTHERS, 0, 1, 2):
            self.refuse(workshop, UnknownEdit, "undo", number)
        self.assertEqual(workshop.in_force, [])

    def test_no_edits(self):
        workshop = Workshop(ledger())
        workshop.test([("put", 0)], [()])
        for method in ("undo", "redo"):
            for number in (*OTHERS, 0, 1):
                self.refuse(workshop, UnknownEdit, method, number)

    def test_true_and_false(self):
        workshop = Workshop(ledger())
        for _ in range(2):
            workshop.edit(0, (0, 0, 0), (0, (), ()))
        for number in (True, False):
            self.refuse(workshop, UnknownEdit, "undo", number)
        for number in (0, 1):
            workshop.undo(number)
        for number in (True, False):
            self.refuse(workshop, UnknownEdit, "redo", number)


class Full(Errors):
    def full(self, many):
        """A workshop with so many entries of all kinds: its edit 0 is in force, its edit 1 is undone."""
        workshop = Workshop(example())
        workshop.edit(0, (0, 0, 0), (1, (0,), ()))
        workshop.edit(1, (0, 0, 0), (1, (0,), ()))
        workshop.undo(1)
        while workshop.size < many:
            if many - workshop.size >= 4:
                workshop.redo(1)
                workshop.undo(1)
            workshop.test([("put", workshop.size)], [()])
        return workshop

    def entries(self):
        return [("edit", 0, (0, 0, 0), (1, (0,), ())), ("test", [("put", 1)], [()]), ("undo", 0), ("redo", 1)]

    def test_the_100th_and_the_101st_entry(self):
        for entry in self.entries():
            workshop = self.full(99)
            self.assertEqual(workshop.size, 99)
            self.take(workshop, *entry)
            self.assertEqual(workshop.size, 100)
            for other in self.entries():
                if other != entry or other[0] in ("edit", "test"):
                    self.refuse(workshop, WorkshopFull, *other)
            self.assertEqual(len(workshop.verdicts()), len(workshop.tests()))
            self.assertEqual(workshop.size, 100)

    def test_100_edits_and_100_tests(self):
        edits, tests = Workshop(example()), Workshop(example())
        for number in range(100):
            row = (1, (0,), ((0, ("low", "high")[number % 2], 0),))
            self.assertEqual(edits.edit(number % 10, (1, 0, 1), row), number)
            self.assertEqual(tests.test([("put", number)], [()]), number)
        for workshop in (edits, tests):
            self.refuse(workshop, WorkshopFull, "edit", 0, (1, 0, 1), (1, (0,), ()))
            self.refuse(workshop, WorkshopFull, "test", [("put", 1)], [()])
        self.refuse(edits, WorkshopFull, "undo", 99)
        self.assertEqual(tests.verdicts(), [True] * 100)
        self.assertEqual(tests.runs, 100)
        self.assertEqual(row_at(edits.program(), (1, 0, 1)), (1, (0,), ((0, "high", 0),)))

    def test_other_errors_come_first(self):
        workshop = self.full(100)
        for passed in ((10, (0, 0, 0), (1, (0,), ())), (0, (0, 0, 1), (1, (0,), ())), (0, (0, 0, 0), (1, (1,), ())),
                       (None, None, None)):
            self.refuse(workshop, BadEdit, "edit", *passed)
        for passed in (([], []), ([("put", 1)], []), ([("take", 1)], [()]), ([("put", 10 ** 30)], [()]), (None, None)):
            self.refuse(workshop, BadTest, "test", *passed)
        for number in (1, 2, -1, True, None):
            self.refuse(workshop, UnknownEdit, "undo", number)
        for number in (0, 2, -1, True, None):
            self.refuse(workshop, UnknownEdit, "redo", number)

    def test_what_was_refused_does_not_count(self):
        workshop = self.full(90)
        for _ in range(20):
            self.refuse(workshop, BadEdit, "edit", 10, (0, 0, 0), (1, (0,), ()))
            self.refuse(workshop, BadTest, "test", [], [])
            self.refuse(workshop, UnknownEdit, "undo", 1)
            self.refuse(workshop, UnknownEdit, "redo", 0)
        for _ in range(10):
            self.take(workshop, "test", [("put", 1)], [()])
        self.refuse(workshop, WorkshopFull, "test", [("put", 1)], [()])


class Arguments(unittest.TestCase):
    def test_nothing_that_is_passed_is_changed(self):
        for form in (as_lists, as_tuples):
            for method, passed in [
                ("edit", [0, (1, 0, 0), (1, (0,), LOW + LOW)]), ("edit", [0, (1, 0, 0), (1, (1, 0), LOW + LOW)]),
                ("test", [[("put", 1)], [(("out", "low", 1),)]]), ("test", [[("put", 1)], [(("out", "mid", 1),)]]),
            ]:
                passed = [each if isinstance(each, int) else form(each) for each in passed]
                before = shown(passed)
                try:
                    getattr(used(), method)(*passed)
                except MissError:
                    pass
                self.assertEqual(shown(passed), before)


if __name__ == "__main__":
    unittest.main()
