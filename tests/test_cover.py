"""Points 1, 2, 15, 26 and 27: reachable cells, what tests do not touch, and how far a test goes on alike."""

import random
import unittest

from missesnone.cover import cover, goes_on, untouched
from missesnone.errors import OtherFace
from missesnone.orders import ranked
from missesnone.programs import Program, cells, row_at, run, step, with_rows
from missesnone.texts import parse_program
from models import changed, plain_continued, random_program, ranked_inputs, some_programs
from samples import EXAMPLE, as_lists, as_tuples, bare, call, example, ledger, other_faces, shown

HUGE = 10 ** 5000
PORTS = [("out", ("low", "high"))]
LOW = ((0, "low", 0),)


def programs():
    yield from some_programs()
    for seed in range(40):
        yield random_program(seed, [(0, 1, 2), (0, 0, 1, 1), (0, 2, 3), (0, 1, 3, 2, 0)][seed % 4], many=4 + seed % 9)


def plain_cover(program):
    """Point 26 word by word."""
    inputs, modes, found = {0: []}, [0], []
    for mode in modes:
        for cell in cells(program):
            if cell[0] == mode:
                move = (program.names[cell[1]], cell[2])
                events = plain_continued(program, program, inputs[mode], move)
                found.append((cell, events))
                after = row_at(program, cell)[0]
                if after not in modes:
                    modes.append(after)
                    inputs[after] = events
    return found


def touched_at_last(program, length):
    """For each cell, the inputs of so many events that touch it at their last event."""
    found = {}
    for events in ranked_inputs(program.names, length):
        found.setdefault(run(program, events)[2][-1], []).append(events)
    return found


class Cover(unittest.TestCase):
    def require(self, program, expected):
        self.assertEqual(shown(call(self, cover, program)), shown(expected))

    def test_the_example_of_the_document(self):
        self.require(example(), [
            ((0, 0, 0), [("put", 0)]), ((1, 0, 0), [("put", 1), ("put", 0)]), ((1, 0, 1), [("put", 0), ("put", 0)]),
            ((1, 0, 2), [("put", 0), ("put", 1)]),
        ])

    def test_modes_that_no_input_reaches(self):
        program = Program(("a", "b"), PORTS, [("m", 0), ("n", 1), ("o", 0), ("p", 1)], [
            ((0, 1, 0), (2, (), ())), ((1, 0, 0), (3, (0,), ())), ((3, 0, 0), (1, (0,), ()))])
        self.require(program, [
            ((0, 0, 0), [("a", 0)]), ((0, 1, 0), [("b", 0)]), ((2, 0, 0), [("b", 0), ("a", 1)]),
            ((2, 1, 0), [("b", 0), ("b", 1)]),
        ])
        self.require(bare(), [((0, 0, 0), [("put", 0)]), ((0, 1, 0), [("take", 0)])])

    def test_modes_in_the_order_in_which_they_are_reached(self):
        modes = [("m", 0), ("n", 0), ("o", 0), ("p", 0), ("q", 0)]
        program = Program(("a", "b"), PORTS, modes, [
            ((0, 0, 0), (3, (), ())), ((0, 1, 0), (1, (), ())), ((3, 1, 0), (4, (), ())), ((3, 0, 0), (1, (), ())),
            ((1, 0, 0), (4, (), ())), ((1, 1, 0), (2, (), ()))])
        a, b = [("a", 0)], [("b", 0)]
        expected = []
        for mode, names in [(0, ""), (3, "a"), (1, "b"), (4, "ab"), (2, "bb")]:
            for at, name in enumerate("ab"):
                expected.append(((mode, at, 0), [(each, number) for number, each in enumerate(names + name)]))
        self.require(program, expected)
        self.assertEqual(cover(program)[:2], [((0, 0, 0), a), ((0, 1, 0), b)])

    def test_positions_are_those_among_the_held_integers_of_the_program(self):
        # Holds the least integer of three, while the others are forgotten.
        program = Program(("a",), PORTS, [("m", 0), ("n", 1), ("o", 2)], [
            ((0, 0, 0), (1, (0,), ())), ((1, 0, 2), (2, (0, 1), ())), ((2, 0, 4), (1, (0,), ())),
        ])
        self.assertEqual([events for cell, events in cover(program) if cell[0] == 2], [
            [("a", 1), ("a", 2), ("a", 0)], [("a", 0), ("a", 1), ("a", 0)], [("a", 0), ("a", 2), ("a", 1)],
            [("a", 0), ("a", 1), ("a", 1)], [("a", 0), ("a", 1), ("a", 2)],
        ])

    def test_plainly(self):
        for program in programs():
            self.require(program, plain_cover(program))

    def test_the_reachable_cells_are_those_that_some_input_touches(self):
        for program in programs():
            found = dict(cover(program))
            places, touched = [(0, ())], set()
            for mode, held in places:
                count = len(held)
                for name in program.names:
                    for position in range(2 * count + 1):
                        after, _, cell = step(program, (mode, tuple(range(0, 2 * count, 2))), (name, position - 1))
                        touched.add(cell)
                        if after[0] not in [place[0] for place in places]:
                            places.append(after)
            self.assertEqual(sorted(found), sorted(touched))

    def test_first_inputs_touch_their_cells_and_no_shorter_ones_do(self):
        for program in programs():
            found = cover(program)
            self.assertEqual(len({cell for cell, _ in found}), len(found))
            short = [touched_at_last(program, length) for length in range(1, 4)]
            for cell, events in found:
                self.assertEqual(ranked(events), events)
                self.assertEqual(run(program, events)[2][-1], cell)
                self.assertNotIn(cell, run(program, events)[2][:-1])
                for length, touched in enumerate(short, start=1):
                    if length < len(events):
                        self.assertNotIn(cell, touched)
                    elif length == len(events):
                        self.assertIn(events, touched[cell])

    def test_16_modes_of_3_integers(self):
        modes = [("m", 0), ("n", 1), ("o", 2), *[(f"p{at}", 3) for at in range(13)]]
        rows = [((0, 0, 0), (1, (0,), ())), ((1, 0, 2), (2, (0, 1), ())), ((2, 0, 2), (3, (0, 1, 2), ()))]
        rows.extend([((at, 3, 6), (at + 1, (1, 2, 3), ())) for at in range(3, 15)])
        program = Program(("a", "b", "c", "d"), PORTS, modes, rows)
        found = call(self, cover, program)
        self.assertEqual(len(found), 4 * (1 + 3 + 5 + 13 * 7))
        self.assertEqual(found[-1], ((15, 3, 6), [
            ("a", 0), ("a", 2), ("a", 1), *[("d", number) for number in range(3, 16)]]))
        self.require(program, plain_cover(program))

    def test_returned_lists_are_new(self):
        result = cover(example())
        result[0][1].clear()
        self.assertEqual(result[1:], cover(example())[1:])
        result = cover(example())
        for _, events in result:
            events.append(None)
        self.assertEqual(sorted({events.count(None) for _, events in result}), [1])


class Untouched(unittest.TestCase):
    def require(self, program, tests, expected):
        for form in (list, as_lists, as_tuples):
            self.assertEqual(shown(call(self, untouched, program, form(tests))), shown(expected))

    def test_the_example_of_the_document(self):
        every = [(0, 0, 0), (1, 0, 0), (1, 0, 1), (1, 0, 2)]
        for tests, expected in [
            ([], every), ([[]], every), ([[("put", HUGE)]], every[1:]), ([[("put", 1), ("put", 0)]], every[2:]),
            ([[("put", 1), ("put", 1)]], [every[1], every[3]]), ([[("put", 4), ("put", 9), ("put", 9)]], every[1:2]),
            ([[("put", 4), ("put", HUGE), ("put", -HUGE), ("put", -HUGE)]], []),
            ([[], [("put", 0), ("put", 1)], [("put", 5), ("put", 5)]], every[1:2]),
        ]:
            self.require(example(), tests, expected)

    def test_modes_that_no_input_reaches(self):
        self.require(bare(), [], [(0, 0, 0), (0, 1, 0)])
        self.require(bare(), [[("take", 3)]], [(0, 0, 0)])
        self.require(bare(), [[("take", 3), ("put", 3)]], [])

    def test_the_first_inputs_touch_everything(self):
        for program in programs():
            found = cover(program)
            self.require(program, [events for _, events in found], [])
            self.require(program, [], [cell for cell, _ in found])

    def test_plainly(self):
        chance = random.Random(9)
        for program in programs():
            inputs = [events for length in range(4) for events in ranked_inputs(program.names, length)]
            for many in range(4):
                tests = chance.sample(inputs, many)
                touched = [cell for events in tests for cell in run(program, events)[2]]
                self.require(program, tests, [cell for cell, _ in plain_cover(program) if cell not in touched])


class GoesOn(unittest.TestCase):
    def require(self, program, other, events, expected):
        for form in (list, as_lists, as_tuples):
            self.assertEqual(shown(call(self, goes_on, program, other, form(events))), shown(expected))
        self.assertEqual(goes_on(other, program, events), expected)

    def test_equal_programs(self):
        for program in programs():
            for events in ranked_inputs(program.names, 3)[::17]:
                self.require(program, program, events, 3)
            self.require(program, program, [], 0)

    def test_the_first_event_that_touches_another_row(self):
        events = [("put", 5), ("put", 2), ("put", 2), ("put", 9), ("put", HUGE)]
        for cell, row, expected in [
            ((0, 0, 0), (0, (), ()), 0), ((0, 0, 0), (1, (0,), LOW), 0), ((1, 0, 0), (1, (0,), ()), 1),
            ((1, 0, 1), (1, (0,), LOW), 2), ((1, 0, 2), (1, (0,), ((0, "high", 1),)), 3),
            ((1, 0, 0), (1, (1,), LOW), 1), ((1, 0, 0), (1, (0,), LOW + LOW), 1), ((1, 0, 0), (1, (0,), LOW), 5),
        ]:
            other = with_rows(example(), [(cell, row)])
            self.require(example(), other, events, expected)
            self.require(example(), other, events[:1], min(expected, 1))
            self.require(example(), other, [], 0)

    def test_other_rows_that_write_the_same(self):
        # Another cell is touched from there on, although both programs write the same.
        text = EXAMPLE.replace("mode b 1", "mode b 1\nmode c 1")
        other = text.replace("at b put 2 go b", "at b put 2 go c")
        events = [("put", 0), ("put", 1), ("put", 1), ("put", 1)]
        self.require(parse_program(text), parse_program(other), events, 1)

    def test_modes_may_have_other_names(self):
        text = EXAMPLE.replace("mode a", "mode x").replace("at a", "at x").replace("mode b", "mode a")
        other = parse_program(text.replace("go b", "go a").replace("at b", "at a"))
        self.assertEqual(other.modes, (("x", 0), ("a", 1)))
        self.require(example(), other, [("put", 5), ("put", 2), ("put", 2), ("put", 9)], 4)

    def test_plainly(self):
        told = {}
        for seed, program in enumerate(programs()):
            other = changed(program, seed, 2)
            for events in ranked_inputs(program.names, 3)[::5]:
                rows = [[row_at(each, cell) for cell in run(each, events)[2]] for each in (program, other)]
                alike = [first == second for first, second in zip(*rows)]
                expected = (alike + [False]).index(False)
                told[expected] = told.get(expected, 0) + 1
                self.assertEqual(call(self, goes_on, program, other, events), expected)
                self.assertEqual(goes_on(other, program, events), expected)
        self.assertEqual(sorted(told), [0, 1, 2, 3])

    def test_other_faces(self):
        for other in other_faces():
            for first, second in [(example(), other), (other, example())]:
                for events in ([], [("put", 0)]):
                    with self.assertRaises(OtherFace):
                        call(self, goes_on, first, second, events)

    def test_other_modes(self):
        first = Program(("put",), PORTS, [("a", 0), ("b", 1)], [])
        for modes in ([("a", 0)], [("a", 0), ("b", 0)], [("a", 0), ("b", 2)], [("a", 0), ("b", 1), ("c", 0)],
                      [("a", 0), ("b", 1), ("c", 1)]):
            second = Program(("put",), PORTS, modes, [])
            for events in ([], [("put", 0)]):
                with self.assertRaises(OtherFace):
                    call(self, goes_on, first, second, events)
                with self.assertRaises(OtherFace):
                    goes_on(second, first, events)
        swapped = Program(("put",), PORTS, [("a", 0), ("b", 1), ("c", 2)], [])
        with self.assertRaises(OtherFace):
            goes_on(swapped, Program(("put",), PORTS, [("a", 0), ("b", 2), ("c", 1)], []), [])
        self.require(ledger(), ledger(), [("put", 3), ("take", 3), ("put", 4)], 3)


if __name__ == "__main__":
    unittest.main()
