"""Points 1 to 7: programs, their cells and rows, and how they run."""

import itertools
import unittest

from missesnone.programs import (
    Program, cells, face, idle_row, position_of, row_at, run, step, with_rows,
)
from samples import as_lists, as_tuples, bare, call, example, ledger, shown

HUGE = 10 ** 5000


class Making(unittest.TestCase):
    def test_attributes_are_tuples(self):
        program = bare()
        self.assertEqual(program.names, ("put", "take"))
        self.assertEqual(program.ports, (("out", ("low", "high")), ("log", ("low",))))
        self.assertEqual(program.modes, (("a", 0), ("b", 1), ("c", 2), ("d", 3)))
        self.assertEqual(len(program.table), 2 * (1 + 3 + 5 + 7))
        self.assertIsInstance(program.table, tuple)

    def test_lists_of_tuples_are_taken(self):
        row = (1, (0,), ((0, "low", 0),))
        program = call(
            self, Program, ["put", "take"], [("out", ("low", "high")), ("log", ("low",))],
            [("a", 0), ("b", 1), ("c", 2), ("d", 3)], (((0, 0, 0), row),),
        )
        self.assertEqual(program, bare([((0, 0, 0), row)]))
        self.assertEqual(shown(program), shown(bare([((0, 0, 0), row)])))

    def test_what_is_passed_is_copied(self):
        names, ports, modes = ["put"], [("out", ("low",))], [("a", 0)]
        rows = [((0, 0, 0), (0, (), ((0, "low", 0),)))]
        program = Program(names, ports, modes, rows)
        before = shown(program)
        for passed in (names, ports, modes, rows):
            passed.clear()
        self.assertEqual(shown(program), before)
        self.assertEqual(run(program, [("put", 4)])[1], [(("out", "low", 4),)])

    def test_rows_in_any_order(self):
        rows = [
            ((1, 0, 2), (1, (1,), ())),
            ((0, 1, 0), (0, (), ((1, "low", 0),))),
            ((1, 0, 0), (0, (), ())),
        ]
        programs = [bare(list(order)) for order in itertools.permutations(rows)]
        for program in programs:
            self.assertEqual(program, programs[0])
            for cell, row in rows:
                self.assertEqual(row_at(program, cell), row)

    def test_table_has_the_rows_in_the_order_of_the_cells(self):
        program = ledger()
        self.assertEqual(program.table, tuple(row_at(program, cell) for cell in cells(program)))
        self.assertEqual(program.table[0], (1, (0,), ()))
        self.assertEqual(program.table[1], (0, (), ((1, "seen", 0),)))

    def test_cells_without_a_row_are_idle(self):
        program = bare([((1, 0, 2), (0, (), ()))])
        for cell in cells(program):
            if cell != (1, 0, 2):
                self.assertEqual(row_at(program, cell), idle_row(program, cell))

    def test_it_checks_nothing(self):
        Program((), (), (), ())
        Program(("x", "x"), (), (("a", 2), ("a", 4)), [((0, 0, 0), (7, (5, 5), ((9, "no", 9),)))])


class Equality(unittest.TestCase):
    def test_equal_if_the_attributes_are(self):
        self.assertTrue(example() == example())
        self.assertFalse(example() != example())

    def test_each_attribute_counts(self):
        parts = [("put",), (("out", ("low",)),), (("a", 0),), ()]
        others = [("take",), (("out", ("high",)),), (("b", 0),), [((0, 0, 0), (0, (), ((0, "low", 0),)))]]
        for at, other in enumerate(others):
            changed = list(parts)
            changed[at] = other
            self.assertFalse(Program(*parts) == Program(*changed))
            self.assertTrue(Program(*parts) != Program(*changed))

    def test_an_idle_row_that_is_passed_makes_no_difference(self):
        program = bare()
        self.assertEqual(bare([(cell, idle_row(program, cell)) for cell in cells(program)]), program)

    def test_other_values(self):
        for other in (None, 0, (), "a", [example()]):
            self.assertFalse(example() == other)


class Positions(unittest.TestCase):
    def test_named_positions(self):
        for number, held, position in [
            (5, (), 0), (-1, (0,), 0), (0, (0,), 1), (1, (0,), 2),
            (3, (4, 8), 0), (4, (4, 8), 1), (6, (4, 8), 2), (8, (4, 8), 3), (9, (4, 8), 4),
            (7, (1, 3, 5), 6), (5, (1, 3, 5), 5), (4, (1, 3, 5), 4),
        ]:
            self.assertEqual(call(self, position_of, number, held), position)
            self.assertEqual(call(self, position_of, number, list(held)), position)

    def test_odd_exactly_if_held(self):
        for count in range(5):
            for held in itertools.combinations(range(-3, 4), count):
                for number in range(-4, 5):
                    less = len([value for value in held if value < number])
                    expected = 2 * less + (1 if number in held else 0)
                    self.assertEqual(position_of(number, held), expected)
                    self.assertIs(type(position_of(number, held)), int)

    def test_large_integers(self):
        self.assertEqual(position_of(HUGE, (-HUGE, HUGE - 1, HUGE)), 5)
        self.assertEqual(position_of(HUGE + 1, (-HUGE, HUGE - 1, HUGE)), 6)
        self.assertEqual(position_of(-HUGE - 1, (-HUGE,)), 0)
        self.assertEqual(position_of(2 ** 53 + 1, (2 ** 53, 2 ** 53 + 2)), 2)


class Cells(unittest.TestCase):
    def test_all_in_order(self):
        program = bare()
        expected = [
            (mode, name, position)
            for mode in range(4) for name in range(2) for position in range(2 * mode + 1)
        ]
        self.assertEqual(call(self, cells, program), expected)
        self.assertEqual(expected, sorted(expected))
        self.assertIsInstance(cells(program), list)

    def test_returned_lists_are_new(self):
        program = example()
        cells(program).clear()
        self.assertEqual(cells(program), [(0, 0, 0), (1, 0, 0), (1, 0, 1), (1, 0, 2)])

    def test_idle_rows(self):
        program = bare()
        for cell, row in [
            ((0, 0, 0), (0, (), ())),
            ((1, 0, 0), (1, (1,), ())), ((1, 1, 1), (1, (0,), ())), ((1, 0, 2), (1, (0,), ())),
            ((2, 0, 0), (2, (1, 2), ())), ((2, 0, 1), (2, (0, 1), ())),
            ((2, 1, 2), (2, (0, 2), ())), ((2, 0, 3), (2, (0, 1), ())),
            ((2, 0, 4), (2, (0, 1), ())),
            ((3, 0, 0), (3, (1, 2, 3), ())), ((3, 0, 2), (3, (0, 2, 3), ())),
            ((3, 0, 4), (3, (0, 1, 3), ())), ((3, 1, 5), (3, (0, 1, 2), ())),
            ((3, 1, 6), (3, (0, 1, 2), ())),
        ]:
            self.assertEqual(call(self, idle_row, program, cell), row)
            self.assertEqual(shown(idle_row(program, list(cell))), shown(row))

    def test_the_idle_row_of_a_cell_with_another_row(self):
        self.assertEqual(idle_row(example(), (0, 0, 0)), (0, (), ()))
        self.assertEqual(row_at(example(), (0, 0, 0)), (1, (0,), ()))

    def test_idle_rows_keep_the_place(self):
        program = bare()
        for count in range(4):
            held = (10, 20, 30)[:count]
            for number in (5, 10, 15, 20, 25, 30, 35):
                place, output, cell = step(program, (count, held), ("take", number))
                self.assertEqual(place, (count, held))
                self.assertEqual(output, ())
                self.assertEqual(cell, (count, 1, position_of(number, held)))

    def test_row_at_takes_a_list(self):
        self.assertEqual(call(self, row_at, example(), [1, 0, 2]), (1, (1,), ((0, "high", 1),)))

    def test_face(self):
        self.assertEqual(
            call(self, face, ledger()),
            (("put", "take"), (("out", ("low", "high", "put")), ("log", ("low", "seen")))),
        )


class WithRows(unittest.TestCase):
    def test_rows_are_put_into_their_cells(self):
        program = example()
        row = (0, (), ((0, "low", 0),))
        changed = call(self, with_rows, program, [((1, 0, 1), row)])
        self.assertEqual(row_at(changed, (1, 0, 1)), row)
        for cell in [(0, 0, 0), (1, 0, 0), (1, 0, 2)]:
            self.assertEqual(row_at(changed, cell), row_at(program, cell))
        self.assertEqual(program, example())
        self.assertEqual((changed.names, changed.ports, changed.modes),
                         (program.names, program.ports, program.modes))

    def test_the_last_row_of_a_cell_stays(self):
        first, second = (0, (), ((0, "low", 0),)), (1, (0,), ((0, "high", 0),))
        cell, other = (1, 0, 1), (0, 0, 0)
        self.assertEqual(
            row_at(with_rows(example(), [(cell, first), (other, first), (cell, second)]), cell), second)
        self.assertEqual(row_at(with_rows(example(), [(cell, second), (cell, first)]), cell), first)

    def test_no_rows(self):
        changed = with_rows(ledger(), [])
        self.assertEqual(changed, ledger())

    def test_idle_rows_are_put_in_like_others(self):
        program = example()
        changed = with_rows(program, [(cell, idle_row(program, cell)) for cell in cells(program)])
        self.assertEqual(changed, Program(program.names, program.ports, program.modes, []))

    def test_lists_and_tuples(self):
        rows = [((1, 0, 1), (1, (0,), ((0, "low", 0), (0, "high", 0)))), ((0, 0, 0), (0, (), ()))]
        expected = with_rows(example(), rows)
        self.assertEqual(shown(call(self, with_rows, example(), as_lists(rows))), shown(expected))
        self.assertEqual(shown(call(self, with_rows, example(), as_tuples(rows))), shown(expected))

    def test_a_program_does_not_share_the_lists_it_was_passed(self):
        rows = [[[0, 0, 0], [1, [0], [[0, "low", 0]]]]]
        changed = with_rows(example(), rows)
        before = shown(changed)
        rows[0][1][2][0][1] = "high"
        rows[0][1][1].clear()
        self.assertEqual(shown(changed), before)
        self.assertEqual(run(changed, [("put", 3)])[1], [(("out", "low", 3),)])


class Steps(unittest.TestCase):
    def test_the_example_of_the_document(self):
        events = [("put", 5), ("put", 2), ("put", 9)]
        place, outputs, touched = call(self, run, example(), events)
        self.assertEqual(outputs, [(), (("out", "low", 2),), (("out", "high", 9),)])
        self.assertEqual(place, (1, (9,)))
        self.assertEqual(touched, [(0, 0, 0), (1, 0, 0), (1, 0, 2)])

    def test_no_events(self):
        self.assertEqual(call(self, run, example(), []), ((0, ()), [], []))
        self.assertEqual(run(example(), ()), ((0, ()), [], []))

    def test_writes_come_in_the_order_of_the_row(self):
        place, output, cell = call(self, step, ledger(), (3, (1, 4, 6)), ("put", 9))
        self.assertEqual(place, (3, (4, 6, 9)))
        self.assertEqual(
            output, (("out", "low", 1), ("out", "high", 9), ("log", "seen", 6), ("out", "put", 4)))
        self.assertEqual(cell, (3, 0, 6))

    def test_candidates_at_an_odd_position(self):
        self.assertEqual(
            step(ledger(), (3, (1, 4, 6)), ("take", 6)), ((2, (1, 4)), (("log", "low", 6),), (3, 1, 5)))

    def test_candidates_at_an_even_position(self):
        self.assertEqual(
            step(ledger(), (2, (3, 7)), ("put", 5)), ((3, (3, 5, 7)), (("out", "put", 5),), (2, 0, 2)))

    def test_each_cell_that_is_touched_is_used(self):
        events = [("take", 8), ("put", 5), ("put", 2), ("take", 5), ("take", 2), ("put", 0)]
        self.assertEqual(run(ledger(), events), (
            (1, (0,)),
            [(("log", "seen", 8),), (), (("out", "low", 2), ("log", "low", 5)), (("log", "seen", 5),),
             (("out", "put", 2),), ()],
            [(0, 1, 0), (0, 0, 0), (1, 0, 0), (2, 1, 3), (1, 1, 1), (0, 0, 0)],
        ))

    def test_results_contain_integers_and_no_booleans(self):
        result = run(ledger(), [("take", 1), ("put", 0), ("put", 1)])
        expected = (
            (2, (0, 1)),
            [(("log", "seen", 1),), (), (("out", "high", 1),)],
            [(0, 1, 0), (0, 0, 0), (1, 0, 2)],
        )
        self.assertEqual(shown(result), shown(expected))
        self.assertEqual(shown(cells(example())), shown([(0, 0, 0), (1, 0, 0), (1, 0, 1), (1, 0, 2)]))
        self.assertEqual(shown(idle_row(example(), (1, 0, 0))), shown((1, (1,), ())))

    def test_a_run_is_its_steps(self):
        events = [("put", 4), ("put", 9), ("put", 6), ("put", 12), ("take", 9), ("take", 5), ("put", 7)]
        program, place, outputs, touched = ledger(), (0, ()), [], []
        for event in events:
            place, output, cell = step(program, place, event)
            outputs.append(output)
            touched.append(cell)
        self.assertEqual(run(program, events), (place, outputs, touched))

    def test_lists_in_the_place_of_tuples(self):
        expected = step(ledger(), (2, (3, 7)), ("put", 5))
        self.assertEqual(shown(call(self, step, ledger(), [2, [3, 7]], ["put", 5])), shown(expected))
        events = [("put", 5), ("put", 2), ("put", 9)]
        expected = shown(run(example(), events))
        self.assertEqual(shown(call(self, run, example(), as_lists(events))), expected)
        self.assertEqual(shown(call(self, run, example(), as_tuples(events))), expected)

    def test_large_and_negative_integers(self):
        events = [("put", HUGE), ("put", HUGE + 1), ("put", -HUGE), ("put", -HUGE)]
        self.assertEqual(run(example(), events)[0], (1, (-HUGE,)))
        self.assertEqual(
            run(example(), events)[1], [(), (("out", "high", HUGE + 1),), (("out", "low", -HUGE),), ()])

    def test_later_calls_change_nothing_that_was_returned(self):
        program = ledger()
        first = run(program, [("put", 1), ("put", 3), ("take", 3)])
        before = shown(first)
        run(program, [("take", 1), ("put", 2)])
        run(with_rows(program, [((0, 0, 0), (0, (), ()))]), [("put", 1)])
        self.assertEqual(shown(first), before)


class Against(unittest.TestCase):
    """Steps are compared with the words of points 4 to 6, taken literally."""

    def test_all_cells(self):
        program = ledger()
        for mode, (_, count) in enumerate(program.modes):
            for held in itertools.combinations(range(0, 8, 2), count):
                for at, name in enumerate(program.names):
                    for number in range(-1, 8):
                        self.check(program, (mode, held), at, name, number)

    def check(self, program, place, at, name, number):
        mode, held = place
        cell = (mode, at, 2 * len([v for v in held if v < number]) + len([v for v in held if v == number]))
        follower, kept, writes = program.table[cells(program).index(cell)]
        found = list(held) if number in held else sorted(list(held) + [number])
        expected = (
            (follower, tuple(found[k] for k in kept)),
            tuple((program.ports[port][0], label, found[k]) for port, label, k in writes),
            cell,
        )
        self.assertEqual(step(program, place, (name, number)), expected)


if __name__ == "__main__":
    unittest.main()
