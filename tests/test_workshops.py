"""Points 1, 2 and 28 to 31: workshops, what of them is stale, blame and clashes."""

import inspect
import random
import unittest

from missesnone.errors import TooManyEdits, UnknownTest
from missesnone.faults import faults
from missesnone.programs import Program, cells, idle_row, row_at, run, with_rows
from missesnone.suites import suite
from missesnone.workshops import Workshop, blame, clashes
from models import random_program, some_programs
from samples import as_lists, as_tuples, example, ledger, shown
from workshop_models import (
    Plain, other_row, put, random_edit, random_entry, random_test, random_workshop, snapshot,
)

HUGE = 10 ** 5000
LOW = ((0, "low", 0),)
HIGH = ((0, "high", 0),)
BELOW, EQUAL, ABOVE = (1, 0, 0), (1, 0, 1), (1, 0, 2)
DOWN = ([("put", 1), ("put", 0)], [(), (("out", "low", 0),)])
UP = ([("put", 0), ("put", 1)], [(), (("out", "high", 1),)])


def stayed(writes):
    """A row of the mode that holds one integer: the held one is kept."""
    return (1, (0,), writes)


def loud(at):
    """A program with a mode that hears many names, and a row that writes at one of them."""
    return ((0, at, 0), (0, (), LOW))


def plot(many):
    """A program that hears many names and writes nothing."""
    return Program(tuple(f"n{at}" for at in range(many)), [("out", ("low", "high"))], [("m", 0)], [])


class Entries(unittest.TestCase):
    def test_a_new_workshop(self):
        workshop = Workshop(example())
        self.assertEqual(workshop.base, example())
        self.assertEqual(workshop.program(), example())
        self.assertEqual(workshop.program_with([]), example())
        for value in (workshop.in_force, workshop.stale(), workshop.edits(), workshop.tests(), workshop.events(),
                      workshop.verdicts()):
            self.assertEqual(value, [])
        self.assertEqual(shown([workshop.runs, workshop.size]), shown([0, 0]))

    def test_numbers_and_entries(self):
        workshop = Workshop(example())
        self.assertEqual(shown(workshop.edit(3, BELOW, stayed(HIGH))), "0x0")
        self.assertEqual(shown(workshop.test(*DOWN)), "0x0")
        self.assertEqual(shown(workshop.edit(0, ABOVE, stayed(()))), "0x1")
        self.assertIsNone(workshop.undo(0))
        self.assertEqual(shown(workshop.test(*UP)), "0x1")
        self.assertIsNone(workshop.redo(0))
        self.assertEqual(shown(workshop.edit(9, BELOW, stayed(HIGH))), "0x2")
        self.assertEqual(shown(workshop.edits()), shown([
            (3, BELOW, stayed(HIGH)), (0, ABOVE, stayed(())), (9, BELOW, stayed(HIGH))]))
        self.assertEqual(shown(workshop.tests()), shown([DOWN, UP]))
        self.assertEqual(shown(workshop.events()), shown([
            ("edit", 3, BELOW, stayed(HIGH)), ("test", *as_tuples(DOWN)), ("edit", 0, ABOVE, stayed(())), ("undo", 0),
            ("test", *as_tuples(UP)), ("redo", 0), ("edit", 9, BELOW, stayed(HIGH)),
        ]))
        self.assertEqual(shown([workshop.size, workshop.in_force]), shown([7, [0, 1, 2]]))

    def test_rows_are_put_in_the_order_of_their_numbers(self):
        workshop = Workshop(example())
        rows = [stayed(LOW), stayed(HIGH), stayed(()), stayed(LOW + LOW)]
        for row in rows:
            workshop.edit(0, EQUAL, row)
        for number, word, expected in [
            (3, "undo", 2), (1, "undo", 2), (2, "undo", 0), (1, "redo", 1), (0, "undo", 1), (3, "redo", 3),
            (1, "undo", 3), (0, "redo", 3), (3, "undo", 0), (0, "undo", None), (2, "redo", 2),
        ]:
            put(workshop, (word, number))
            row = idle_row(example(), EQUAL) if expected is None else rows[expected]
            self.assertEqual(workshop.program(), with_rows(example(), [(EQUAL, row)]))
        self.assertEqual(workshop.in_force, [2])
        self.assertEqual(workshop.base, example())

    def test_program_with(self):
        workshop = Workshop(example())
        for row in (stayed(LOW), stayed(HIGH), stayed(())):
            workshop.edit(0, EQUAL, row)
        workshop.edit(1, ABOVE, stayed(LOW))
        workshop.undo(1)
        before = snapshot(workshop)
        for numbers, equal, above in [
            ([], idle_row(example(), EQUAL), None), ([1], stayed(HIGH), None), ([0, 1, 2], stayed(()), None),
            ([2, 1, 0], stayed(LOW), None), ([2, 3, 1], stayed(HIGH), stayed(LOW)), ((3, 0), stayed(LOW), stayed(LOW)),
        ]:
            rows = [(EQUAL, equal), *([] if above is None else [(ABOVE, above)])]
            self.assertEqual(workshop.program_with(numbers), with_rows(example(), rows))
        self.assertEqual(snapshot(workshop), before)

    def test_lists_and_tuples(self):
        for form in (as_lists, as_tuples):
            workshop = Workshop(example())
            workshop.edit(3, form(BELOW), form(stayed(HIGH + LOW)))
            workshop.test(form(DOWN[0]), form(DOWN[1]))
            self.assertEqual(shown(workshop.events()), shown([
                ("edit", 3, BELOW, stayed(HIGH + LOW)), ("test", *as_tuples(DOWN))]))
            self.assertEqual(shown(workshop.edits()), shown([(3, BELOW, stayed(HIGH + LOW))]))
            self.assertEqual(shown(workshop.tests()), shown([DOWN]))
            self.assertEqual(workshop.program(), with_rows(example(), [(BELOW, stayed(HIGH + LOW))]))
            self.assertEqual(workshop.verdicts(), [False])
            self.assertEqual(shown(workshop.program_with(form([0]))), shown(workshop.program()))

    def test_a_workshop_copies_what_it_is_passed(self):
        base = example()
        cell, row, numbers = list(BELOW), as_lists(stayed(HIGH)), [0]
        events, outputs = as_lists(UP[0]), as_lists(UP[1])
        workshop = Workshop(base)
        workshop.edit(0, cell, row)
        workshop.test(events, outputs)
        self.assertEqual((cell, row, events, outputs), (list(BELOW), as_lists(stayed(HIGH)), as_lists(UP[0]), as_lists(
            UP[1])))
        before = snapshot(workshop)
        made = workshop.program_with(numbers)
        cell[2] = 2
        row[2][0][1] = "low"
        row[1].clear()
        events[0][1] = 7
        events.pop()
        outputs[1][0][1] = "low"
        outputs.clear()
        numbers.clear()
        base.names, base.ports, base.modes, base.table = ("take",), (), (), ()
        self.assertEqual(snapshot(workshop), before)
        self.assertEqual(made, with_rows(example(), [(BELOW, stayed(HIGH))]))
        self.assertEqual(workshop.verdicts(), [True])

    def test_a_workshop_returns_new_lists(self):
        workshop = Workshop(example())
        workshop.edit(0, BELOW, stayed(HIGH))
        workshop.edit(1, BELOW, stayed(LOW))
        for test in (UP, DOWN):
            workshop.test(*test)
        before = snapshot(workshop)
        for function in (workshop.stale, workshop.edits, workshop.tests, workshop.events):
            self.assertIsNot(function(), function())
            function().clear()
        for events, outputs in workshop.tests():
            events.clear()
            outputs.clear()
        workshop.in_force.clear()
        self.assertEqual(snapshot(workshop), before)
        for result in (blame(workshop, 0), clashes(workshop, 0, 1)):
            for part in result:
                if isinstance(part, list):
                    part.clear()
        workshop.verdicts().clear()
        self.assertEqual(workshop.verdicts(), [True, True])
        self.assertEqual(blame(workshop, 1), ([(0,)], [(0, 1)]))

    def test_returned_values_stay_as_they_were(self):
        workshop = Workshop(example())
        workshop.edit(0, BELOW, stayed(HIGH))
        workshop.test(*DOWN)
        values = [workshop.program(), workshop.in_force, workshop.stale(), workshop.edits(), workshop.tests(),
                  workshop.events(), workshop.verdicts(), blame(workshop, 0), workshop.program_with([0]), workshop.base]
        before = shown(values)
        workshop.edit(1, ABOVE, stayed(LOW))
        workshop.test(*UP)
        workshop.undo(0)
        workshop.verdicts()
        self.assertEqual(shown(values), before)

    def test_properties(self):
        for name in ("base", "runs", "in_force", "size"):
            self.assertIsInstance(inspect.getattr_static(Workshop, name), property)
        for name in ("edit", "test", "undo", "redo", "program", "program_with", "verdicts", "stale", "edits", "tests",
                     "events"):
            self.assertTrue(inspect.isfunction(vars(Workshop)[name]), name)

    def test_workshops_know_nothing_of_each_other(self):
        base = example()
        first, second = Workshop(base), Workshop(base)
        first.edit(0, BELOW, stayed(HIGH))
        first.test(*DOWN)
        first.verdicts()
        self.assertEqual(snapshot(second), snapshot(Workshop(example())))
        self.assertEqual(base, example())


class Runs(unittest.TestCase):
    def require(self, workshop, stale, verdicts, runs):
        self.assertEqual(shown(workshop.stale()), shown(stale))
        self.assertEqual(shown(workshop.verdicts()), shown(verdicts))
        self.assertEqual(shown(workshop.runs), shown(runs))
        self.assertEqual(workshop.stale(), [])

    def test_new_tests_are_stale(self):
        workshop = Workshop(example())
        self.require(workshop, [], [], 0)
        workshop.test(*DOWN)
        self.assertEqual(workshop.runs, 0)
        self.require(workshop, [0], [True], 1)
        self.require(workshop, [], [True], 1)
        workshop.test(*UP)
        workshop.test(UP[0], DOWN[1])
        self.require(workshop, [1, 2], [True, True, False], 3)
        workshop.test(*DOWN)
        self.require(workshop, [3], [True, True, False, True], 4)

    def test_only_touched_cells_count(self):
        workshop = Workshop(example())
        workshop.test(*DOWN)
        workshop.test(*UP)
        self.require(workshop, [0, 1], [True, True], 2)
        workshop.edit(0, ABOVE, stayed(LOW))
        self.require(workshop, [1], [True, False], 3)
        workshop.edit(0, EQUAL, stayed(LOW))
        self.require(workshop, [], [True, False], 3)
        workshop.edit(0, BELOW, stayed(()))
        self.require(workshop, [0], [False, False], 4)
        workshop.edit(0, (0, 0, 0), (1, (0,), LOW))
        self.require(workshop, [0, 1], [False, False], 6)
        workshop.undo(3)
        workshop.undo(2)
        workshop.undo(0)
        self.require(workshop, [0, 1], [True, True], 8)

    def test_the_same_row_again_leaves_a_test_fresh(self):
        workshop = Workshop(example())
        workshop.test(*DOWN)
        self.require(workshop, [0], [True], 1)
        workshop.edit(0, BELOW, row_at(example(), BELOW))
        self.require(workshop, [], [True], 1)
        workshop.edit(0, BELOW, as_lists(row_at(example(), BELOW)))
        workshop.undo(0)
        self.require(workshop, [], [True], 1)

    def test_stale_again_and_fresh_again(self):
        workshop = Workshop(example())
        workshop.test(*DOWN)
        self.require(workshop, [0], [True], 1)
        workshop.edit(0, BELOW, stayed(HIGH))
        self.assertEqual(workshop.stale(), [0])
        workshop.undo(0)
        self.require(workshop, [], [True], 1)
        workshop.redo(0)
        self.require(workshop, [0], [False], 2)
        workshop.undo(0)
        self.assertEqual(workshop.stale(), [0])
        workshop.redo(0)
        self.require(workshop, [], [False], 2)
        workshop.edit(1, BELOW, row_at(example(), BELOW))
        self.assertEqual(workshop.stale(), [0])
        workshop.edit(2, BELOW, stayed(HIGH))
        self.require(workshop, [], [False], 2)
        workshop.undo(2)
        self.require(workshop, [0], [True], 3)

    def test_the_cells_of_the_last_run_count_and_not_those_of_a_new_one(self):
        workshop = Workshop(ledger())
        events = [("put", 5), ("put", 3), ("take", 3)]
        workshop.test(events, run(ledger(), events)[1])
        self.require(workshop, [0], [True], 1)
        touched = run(ledger(), events)[2]
        workshop.edit(0, touched[1], (0, (), ()))
        after = run(workshop.program(), events)[2]
        self.assertNotEqual(after[2], touched[2])
        self.require(workshop, [0], [False], 2)
        workshop.edit(1, touched[2], (0, (), ()))
        self.require(workshop, [], [False], 2)
        workshop.edit(1, after[2], (0, (), ((1, "low", 0),)))
        self.require(workshop, [0], [False], 3)

    def test_passing_needs_exactly_the_outputs(self):
        events = [("put", 4), ("put", 2), ("put", 9)]
        due = run(example(), events)[1]
        self.assertEqual(due, [(), (("out", "low", 2),), (("out", "high", 9),)])
        workshop = Workshop(example())
        workshop.test(events, due)
        for at, output in [(0, (("out", "low", 4),)), (1, ()), (1, (("out", "high", 2),)), (1, (("out", "low", 4),)),
                           (1, (("out", "low", 2), ("out", "low", 2))), (2, (("out", "high", -9),)), (2, ())]:
            workshop.test(events, [*due[:at], output, *due[at + 1:]])
        self.require(workshop, list(range(8)), [True] + [False] * 7, 8)

    def test_only_verdicts_run_tests(self):
        workshop, _ = random_workshop(random.Random(4), ledger(), 14)
        self.assertGreater(len(workshop.tests()), 1)
        for _ in range(2):
            runs = workshop.runs
            before = snapshot(workshop)
            for function in (workshop.program, workshop.stale, workshop.edits, workshop.tests, workshop.events):
                function()
            workshop.program_with(workshop.in_force)
            workshop.program_with([])
            if len(workshop.in_force) <= 6:
                blame(workshop, 0)
            clashes(workshop, 0, 1)
            self.assertEqual(snapshot(workshop), before)
            self.assertEqual(workshop.runs, runs)
            workshop.verdicts()

    def test_the_tests_of_a_suite(self):
        program = example()
        some = faults(program, ["label", "drop", "repeat", "value"])
        workshop = Workshop(program)
        for events in suite(program, some):
            workshop.test(events, run(program, events)[1])
        self.assertEqual(set(workshop.verdicts()), {True})
        for number, fault in enumerate(some):
            for cell, row in fault:
                workshop.edit(number % 10, cell, row)
            self.assertIn(False, workshop.verdicts())
            workshop.undo(number)
            self.assertEqual(set(workshop.verdicts()), {True})

    def test_plainly(self):
        seen = {"fresh": 0, "stale": 0, "never": 0}
        for seed, base in enumerate([example(), *some_programs()] * 3):
            chance = random.Random(seed)
            workshop, plain = Workshop(base), Plain(base)
            for _ in range(30):
                entry = random_entry(chance, plain)
                expected = {"edit": len(plain.edits()), "test": len(plain.tests())}.get(entry[0])
                self.assertEqual(put(workshop, entry), expected)
                plain.add(entry)
                self.assertEqual(shown(workshop.program()), shown(plain.program()))
                self.assertEqual(shown(workshop.in_force), shown(plain.in_force()))
                self.assertEqual(shown(workshop.size), shown(len(plain.entries)))
                for number, program in enumerate(plain.programs):
                    key = "never" if program is None else "stale" if plain.is_stale(number) else "fresh"
                    seen[key] += 1
                self.assertEqual(shown(workshop.stale()), shown(plain.stale()))
                if chance.random() < 0.4:
                    self.assertEqual(shown(workshop.verdicts()), shown(plain.verdicts()))
                self.assertEqual(shown(workshop.runs), shown(plain.runs))
            self.assertEqual(shown(workshop.events()), shown(plain.entries))
            self.assertEqual(shown(workshop.edits()), shown(plain.edits()))
            self.assertEqual(shown(workshop.tests()), shown([(list(one), list(two)) for one, two in plain.tests()]))
        self.assertTrue(min(seen.values()) > 100, seen)

    def test_stale_tests_cannot_be_known_from_which_cells_changed(self):
        found = 0
        for seed, base in enumerate([example(), *some_programs()] * 3):
            workshop, plain = random_workshop(random.Random(seed), base, 25)
            half = Workshop(base)
            programs = []
            for at, entry in enumerate(plain.entries):
                put(half, entry)
                if entry[0] == "test":
                    programs.append(None)
                if at == 15:
                    half.verdicts()
                    programs = [half.program() for _ in programs]
            now = half.program()
            for number in half.stale():
                last = programs[number]
                if last is None:
                    continue
                found += 1
                events = half.tests()[number][0]
                differing = [cell for cell in cells(base) if row_at(now, cell) != row_at(last, cell)]
                first = [cell for cell in run(last, events)[2] if cell in differing][0]
                rows = [(cell, row_at(now, cell)) for cell in differing if cell != first]
                other = with_rows(last, [*rows, (first, other_row(last, first))])
                self.assertEqual([cell for cell in cells(base) if row_at(other, cell) != row_at(last, cell)], differing)
                self.assertNotEqual(run(other, events)[1], run(last, events)[1])
            for number in range(len(programs)):
                if number not in half.stale():
                    events = half.tests()[number][0]
                    self.assertEqual(run(programs[number], events), run(now, events))
        self.assertGreater(found, 10)


class Blame(unittest.TestCase):
    def require(self, workshop, number, expected):
        before = snapshot(workshop)
        self.assertEqual(shown(blame(workshop, number)), shown(expected))
        self.assertEqual(snapshot(workshop), before)

    def test_no_edits(self):
        workshop = Workshop(example())
        workshop.test(*DOWN)
        workshop.test(DOWN[0], UP[1])
        self.require(workshop, 0, ([], [()]))
        self.require(workshop, 1, ([()], []))

    def test_one_edit(self):
        workshop = Workshop(example())
        workshop.test(*DOWN)
        workshop.test(DOWN[0], [(), (("out", "high", 1),)])
        workshop.edit(0, BELOW, stayed(((0, "high", 1),)))
        self.require(workshop, 0, ([(0,)], [()]))
        self.require(workshop, 1, ([()], [(0,)]))
        workshop.undo(0)
        self.require(workshop, 0, ([], [()]))
        self.require(workshop, 1, ([()], []))

    def test_the_order_of_sets(self):
        # Each of the first three edits fails the test by itself; the fourth one has nothing to do with it.
        workshop = Workshop(plot(5))
        workshop.test([(f"n{at}", 0) for at in range(4)], [(), (), (), ()])
        for at in (0, 1, 2, 4):
            workshop.edit(0, *loud(at))
        self.require(workshop, 0, ([(2,), (1,), (0,)], [(3,)]))
        workshop.undo(1)
        self.require(workshop, 0, ([(2,), (0,)], [(3,)]))
        workshop.redo(1)
        workshop.test([("n0", 0), ("n1", 0), ("n2", 0)], [(("out", "low", 0),), (("out", "low", 0),), ()])
        self.require(workshop, 1, ([()], [(0, 1, 3)]))

    def test_sets_that_fail_and_pass_by_turns(self):
        workshop = Workshop(example())
        workshop.test(*DOWN)
        for row in (stayed(HIGH), stayed(LOW), stayed(()), stayed(LOW)):
            workshop.edit(0, BELOW, row)
        self.require(workshop, 0, ([(2,), (0,)], [(0, 1, 2, 3)]))
        workshop.undo(3)
        self.require(workshop, 0, ([(2,), (0,)], [(0, 1)]))
        workshop.undo(0)
        self.require(workshop, 0, ([(2,)], [(1,)]))
        workshop.redo(3)
        self.require(workshop, 0, ([(2,)], [(1, 2, 3)]))

    def test_two_edits_that_fail_only_together(self):
        program = Program(("a",), [("out", ("low", "high"))], [("m", 0), ("n", 0), ("o", 0)], [])
        workshop = Workshop(program)
        workshop.test([("a", 0), ("a", 0)], [(), ()])
        workshop.edit(0, (1, 0, 0), (1, (), LOW))
        workshop.edit(1, (0, 0, 0), (1, (), ()))
        workshop.edit(2, (2, 0, 0), (1, (), LOW))
        workshop.edit(3, (0, 0, 0), (2, (), ()))
        self.require(workshop, 0, ([(2, 3), (0, 1)], [(1, 2), (0, 2), (0, 1, 3)]))

    def test_six_and_seven_edits_in_force(self):
        workshop = Workshop(plot(8))
        workshop.test([(f"n{at}", 0) for at in range(8)], [()] * 8)
        for at in range(6):
            workshop.edit(at, *loud(at))
        self.require(workshop, 0, ([(at,) for at in range(5, -1, -1)], [()]))
        workshop.edit(6, *loud(6))
        before = snapshot(workshop)
        with self.assertRaises(TooManyEdits):
            blame(workshop, 0)
        self.assertEqual(snapshot(workshop), before)
        workshop.undo(2)
        self.require(workshop, 0, ([(at,) for at in (6, 5, 4, 3, 1, 0)], [()]))
        workshop.redo(2)
        with self.assertRaises(TooManyEdits):
            blame(workshop, 0)
        for at in range(7):
            workshop.undo(at)
        self.require(workshop, 0, ([], [()]))

    def test_unknown_tests(self):
        workshop = Workshop(plot(8))
        workshop.test([("n0", 0)], [()])
        workshop.test([("n0", 0)], [()])
        for many in range(9):
            before = snapshot(workshop)
            for number in (2, -1, -2, 3, HUGE, True, False, None, "0", "", [0], [], (1,), {}, 0.0, 1.5):
                with self.assertRaises(UnknownTest) as caught:
                    blame(workshop, number)
                self.assertIs(caught.exception.number, number)
            self.assertEqual(snapshot(workshop), before)
            if many < 8:
                workshop.edit(0, *loud(many))
        with self.assertRaises(UnknownTest):
            blame(Workshop(plot(1)), 0)

    def test_plainly(self):
        told = {"failing": 0, "passing": 0, "larger": 0}
        for seed in range(60):
            chance = random.Random(seed)
            base = random_program(seed, (0, 0, 0, 0), ("put", "take"), writes=0.2, many=8)
            workshop, plain = Workshop(base), Plain(base)
            for at in range(14):
                if at < 4 or at % 3 == 0:
                    entry = ("test", *random_test(chance, chance.choice([plain.program(), base]), 8))
                elif len(plain.in_force()) == 6:
                    entry = ("undo", chance.choice(plain.in_force()))
                else:
                    entry = ("edit", *random_edit(chance, base))
                put(workshop, entry)
                plain.add(entry)
            for number in range(len(plain.tests())):
                expected = plain.blame(number)
                told["failing"] += len(expected[0])
                told["passing"] += len(expected[1])
                told["larger"] += any(len(part) > 1 for part in expected[0])
                self.require(workshop, number, expected)
        self.assertTrue(told["failing"] > 200 and told["passing"] > 200 and told["larger"] > 10, told)


class Clashes(unittest.TestCase):
    def require(self, workshop, first, second, expected):
        before = snapshot(workshop)
        self.assertEqual(shown(clashes(workshop, first, second)), shown(expected))
        self.assertEqual(snapshot(workshop), before)

    def test_two_hands(self):
        workshop = Workshop(example())
        self.require(workshop, 0, 1, [])
        workshop.edit(0, BELOW, stayed(HIGH))
        self.require(workshop, 0, 1, [])
        workshop.edit(1, ABOVE, stayed(LOW))
        self.require(workshop, 0, 1, [])
        workshop.edit(1, BELOW, stayed(HIGH))
        self.require(workshop, 0, 1, [])
        workshop.edit(1, BELOW, stayed(LOW))
        for first, second, expected in [
            (0, 1, [BELOW]), (1, 0, [BELOW]), (0, 0, []), (1, 1, []), (0, 2, []), (2, 1, []), (9, 8, []),
        ]:
            self.require(workshop, first, second, expected)
        workshop.undo(3)
        self.require(workshop, 0, 1, [])
        workshop.redo(3)
        workshop.undo(0)
        self.require(workshop, 0, 1, [])
        workshop.edit(0, BELOW, stayed(LOW))
        self.require(workshop, 1, 0, [])
        workshop.redo(0)
        self.require(workshop, 1, 0, [])
        workshop.undo(4)
        self.require(workshop, 1, 0, [BELOW])

    def test_the_order_of_the_first_edits_of_the_first_hand(self):
        workshop = Workshop(plot(4))
        for at in (2, 0, 3, 1):
            workshop.edit(0, *loud(at))
        for at in (0, 1, 3, 2):
            workshop.edit(1, (0, at, 0), (0, (), HIGH))
        workshop.edit(0, (0, 2, 0), (0, (), LOW + LOW))
        self.require(workshop, 0, 1, [(0, at, 0) for at in (2, 0, 3, 1)])
        self.require(workshop, 1, 0, [(0, at, 0) for at in (0, 1, 3, 2)])
        workshop.undo(0)
        self.require(workshop, 0, 1, [(0, at, 0) for at in (0, 3, 1, 2)])
        workshop.undo(2)
        self.require(workshop, 0, 1, [(0, at, 0) for at in (0, 1, 2)])
        self.require(workshop, 1, 0, [(0, at, 0) for at in (0, 1, 2)])
        workshop.redo(0)
        self.require(workshop, 0, 1, [(0, at, 0) for at in (2, 0, 1)])

    def test_plainly(self):
        many = 0
        for seed, base in enumerate([example(), *some_programs()] * 3):
            chance = random.Random(seed)
            workshop, plain = Workshop(base), Plain(base)
            for _ in range(30):
                hand, cell, row = random_edit(chance, plain.program())
                entry = ("edit", hand, cell, row) if chance.random() < 0.7 else random_entry(chance, plain)
                put(workshop, entry)
                plain.add(entry)
            for first in range(3):
                for second in range(3):
                    expected = plain.clashes(first, second)
                    many += len(expected)
                    self.require(workshop, first, second, expected)
        self.assertGreater(many, 60)


if __name__ == "__main__":
    unittest.main()
