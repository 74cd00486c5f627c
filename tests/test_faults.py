"""Points 1, 2, 18 and 19: slips of the six kinds, faults, and faulty programs."""

import itertools
import unittest

from missesnone.errors import MissError, TooLarge
from missesnone.faults import faults, faulty, slips
from missesnone.programs import Program, cells, row_at, run, with_rows
from models import candidates_at, random_program
from samples import as_lists, as_tuples, call, example, ledger, shown

KINDS = ("next", "hold", "drop", "label", "value", "repeat")
PORTS = (("out", ("low", "high", "mid")), ("log", ("seen", "low")), ("bell", ("ring",)))
MODES = (("a", 0), ("b", 1), ("c", 2), ("d", 2), ("e", 0), ("f", 2), ("g", 3))


def program_with(cell, row, names=("put",), modes=MODES):
    return Program(names, PORTS, modes, [(cell, row)])


def labelled(singles, doubles, names=("a", "b", "c", "d")):
    """A program of 16 modes that has so many writes with one other label, and then with two other labels."""
    modes = [(f"m{at}", 0) for at in range(16)]
    writes = [*(singles * [(1, "seen", 0)]), *(doubles * [(0, "low", 0)])]
    every = [(mode, name, 0) for mode in range(16) for name in range(len(names))]
    rows = []
    for at, cell in enumerate(every):
        if writes[4 * at:4 * at + 4]:
            rows.append((cell, (cell[0], (), tuple(writes[4 * at:4 * at + 4]))))
    assert len(writes) <= 4 * len(every)
    return Program(names, PORTS, modes, rows)


def spread(singles, doubles):
    """A program that has one write with one other label in so many cells, and one with two others in so many."""
    modes = [(f"m{at}", 0) for at in range(16)]
    writes = [*(singles * [(1, "seen", 0)]), *(doubles * [(0, "low", 0)])]
    every = [(mode, name, 0) for mode in range(16) for name in range(2)]
    rows = [(cell, (0, (), (write,))) for cell, write in zip(every, writes)]
    return Program(("a", "b"), PORTS, modes, rows)


def plain_slips(program, kinds):
    """The slips, found among all rows that come near the row of a cell."""
    found = []
    for cell in cells(program):
        follower, kept, writes = row_at(program, cell)
        many = candidates_at(program, cell)
        for kind in kinds:
            rows = []
            if kind == "next":
                rows = [(mode, kept, writes) for mode, (_, count) in enumerate(program.modes) if count == len(kept)]
            if kind == "hold":
                rows = [(follower, held, writes) for held in itertools.product(range(many), repeat=len(kept))
                        if list(held) == sorted(set(held))]
            for at, (port, label, source) in enumerate(writes):
                others = []
                if kind == "drop":
                    others = [()]
                if kind == "repeat" and len(writes) < 4:
                    others = [(writes[at], writes[at])]
                if kind == "label":
                    others = [((port, other, source),) for other in program.ports[port][1]]
                if kind == "value":
                    others = [((port, label, other),) for other in range(many)]
                rows.extend([(follower, kept, writes[:at] + other + writes[at + 1:]) for other in others])
            rows = list(dict.fromkeys(rows))
            found.extend([(cell, row) for row in rows if row != (follower, kept, writes)])
    return found


class Slips(unittest.TestCase):
    def require(self, program, cell, kind, rows):
        found = [row for each, row in call(self, slips, program, [kind]) if each == cell]
        self.assertEqual(shown(found), shown(rows))

    def test_next(self):
        low = ((0, "low", 0),)
        self.require(program_with((2, 0, 1), (3, (0, 1), low)), (2, 0, 1), "next", [
            (2, (0, 1), low), (5, (0, 1), low)])
        self.require(program_with((2, 0, 0), (5, (1, 2), low)), (2, 0, 0), "next", [
            (2, (1, 2), low), (3, (1, 2), low)])
        self.require(program_with((2, 0, 1), (1, (1,), low)), (2, 0, 1), "next", [])
        self.require(program_with((6, 0, 6), (6, (1, 2, 3), low)), (6, 0, 6), "next", [])

    def test_next_modes_that_hold_nothing(self):
        program = program_with((0, 0, 0), (0, (), ()))
        self.require(program, (0, 0, 0), "next", [(4, (), ())])
        self.require(program, (4, 0, 0), "next", [(0, (), ())])

    def test_hold(self):
        low = ((0, "low", 0),)
        self.require(program_with((2, 0, 2), (3, (0, 2), low)), (2, 0, 2), "hold", [
            (3, (0, 1), low), (3, (1, 2), low)])
        self.require(program_with((2, 0, 3), (3, (0, 1), low)), (2, 0, 3), "hold", [])
        self.require(program_with((2, 0, 3), (1, (0,), low)), (2, 0, 3), "hold", [(1, (1,), low)])
        self.require(program_with((6, 0, 0), (2, (1, 2), low)), (6, 0, 0), "hold", [
            (2, held, low) for held in [(0, 1), (0, 2), (0, 3), (1, 3), (2, 3)]])
        self.require(program_with((6, 0, 6), (6, (0, 1, 2), ())), (6, 0, 6), "hold", [
            (6, held, ()) for held in [(0, 1, 3), (0, 2, 3), (1, 2, 3)]])

    def test_hold_in_modes_that_hold_nothing(self):
        self.require(program_with((6, 0, 0), (0, (), ((0, "low", 0),))), (6, 0, 0), "hold", [])
        self.require(program_with((0, 0, 0), (1, (0,), ())), (0, 0, 0), "hold", [])

    def test_drop(self):
        x, y, z = (0, "low", 0), (1, "seen", 0), (0, "low", 1)
        for writes, shorter in [
            ((), []), ((x,), [()]), ((x, y), [(y,), (x,)]), ((x, y, z), [(y, z), (x, z), (x, y)]),
            ((x, x), [(x,)]), ((x, x, y), [(x, y), (x, x)]), ((x, y, x), [(y, x), (x, x), (x, y)]),
            ((y, x, x), [(x, x), (y, x)]), ((x, x, x, x), [(x, x, x)]),
            ((x, y, y, x), [(y, y, x), (x, y, x), (x, y, y)]),
            ((x, y, x, y), [(y, x, y), (x, x, y), (x, y, y), (x, y, x)]),
        ]:
            program = program_with((1, 0, 0), (1, (0,), writes))
            self.require(program, (1, 0, 0), "drop", [(1, (0,), each) for each in shorter])

    def test_label(self):
        program = program_with((1, 0, 0), (1, (0,), ((1, "low", 1), (0, "high", 0), (2, "ring", 0), (0, "low", 1))))
        self.require(program, (1, 0, 0), "label", [(1, (0,), writes) for writes in [
            ((1, "seen", 1), (0, "high", 0), (2, "ring", 0), (0, "low", 1)),
            ((1, "low", 1), (0, "low", 0), (2, "ring", 0), (0, "low", 1)),
            ((1, "low", 1), (0, "mid", 0), (2, "ring", 0), (0, "low", 1)),
            ((1, "low", 1), (0, "high", 0), (2, "ring", 0), (0, "high", 1)),
            ((1, "low", 1), (0, "high", 0), (2, "ring", 0), (0, "mid", 1)),
        ]])

    def test_value(self):
        program = program_with((2, 0, 2), (0, (), ((1, "low", 1), (0, "high", 2))))
        self.require(program, (2, 0, 2), "value", [(0, (), writes) for writes in [
            ((1, "low", 0), (0, "high", 2)), ((1, "low", 2), (0, "high", 2)),
            ((1, "low", 1), (0, "high", 0)), ((1, "low", 1), (0, "high", 1)),
        ]])
        program = program_with((2, 0, 1), (0, (), ((1, "low", 1),)))
        self.require(program, (2, 0, 1), "value", [(0, (), ((1, "low", 0),))])
        self.require(program_with((1, 0, 1), (0, (), ((1, "low", 0),))), (1, 0, 1), "value", [])
        self.require(program_with((0, 0, 0), (0, (), ((1, "low", 0),))), (0, 0, 0), "value", [])

    def test_repeat(self):
        x, y, z = (0, "low", 0), (1, "seen", 0), (0, "low", 1)
        for writes, longer in [
            ((), []), ((x,), [(x, x)]), ((x, y), [(x, x, y), (x, y, y)]),
            ((x, y, z), [(x, x, y, z), (x, y, y, z), (x, y, z, z)]),
            ((x, x), [(x, x, x)]), ((x, x, y), [(x, x, x, y), (x, x, y, y)]),
            ((x, y, x), [(x, x, y, x), (x, y, y, x), (x, y, x, x)]), ((x, y, z, x), []), ((x, x, x, x), []),
            ((x, y, z, x, y), []),
        ]:
            program = program_with((1, 0, 0), (1, (0,), writes))
            self.require(program, (1, 0, 0), "repeat", [(1, (0,), each) for each in longer])

    def test_writes_that_are_equal_to_one_another(self):
        x = (0, "low", 0)
        program = program_with((1, 0, 0), (0, (), (x, x)))
        self.require(program, (1, 0, 0), "label", [(0, (), writes) for writes in [
            ((0, "high", 0), x), ((0, "mid", 0), x), (x, (0, "high", 0)), (x, (0, "mid", 0))]])
        self.require(program, (1, 0, 0), "value", [(0, (), writes) for writes in [
            ((0, "low", 1), x), (x, (0, "low", 1))]])

    def test_cell_by_cell_and_kind_by_kind(self):
        program = example()
        self.assertEqual(shown(call(self, slips, program, ("value", "hold", "label"))), shown([
            ((1, 0, 0), (1, (0,), ((0, "low", 1),))), ((1, 0, 0), (1, (1,), ((0, "low", 0),))),
            ((1, 0, 0), (1, (0,), ((0, "high", 0),))),
            ((1, 0, 2), (1, (1,), ((0, "high", 0),))), ((1, 0, 2), (1, (0,), ((0, "high", 1),))),
            ((1, 0, 2), (1, (1,), ((0, "low", 1),))),
        ]))

    def test_no_kinds_and_no_slips(self):
        self.assertEqual(call(self, slips, ledger(), []), [])
        self.assertEqual(call(self, slips, example(), ["next"]), [])

    def test_idle_rows_have_slips_too(self):
        program = Program(("put",), PORTS, MODES, [])
        self.assertEqual(slips(program, ["hold"])[:3], [
            ((1, 0, 0), (1, (0,), ())), ((1, 0, 2), (1, (1,), ())), ((2, 0, 0), (2, (0, 1), ()))])

    def test_plainly(self):
        programs = [example(), ledger(), program_with((1, 0, 0), (0, (), ()))]
        programs.extend([random_program(seed, (0, 1, 2, 0, 3), writes=0.7, many=20) for seed in range(12)])
        for program in programs:
            for kinds in [KINDS, KINDS[::-1], KINDS[2:4], ("repeat", "drop"), ("value",)]:
                found = call(self, slips, program, kinds)
                self.assertEqual(shown(found), shown(plain_slips(program, kinds)))
                self.assertEqual(shown(call(self, slips, program, list(kinds))), shown(found))

    def test_no_two_are_the_same_and_each_changes_its_row(self):
        for seed in range(12):
            program = random_program(seed, (0, 1, 2, 0, 3), writes=0.7, many=20)
            found = slips(program, KINDS)
            self.assertEqual(len(found), len(set(found)))
            for cell, row in found:
                self.assertNotEqual(row, row_at(program, cell))

    def test_returned_lists_are_new(self):
        program = ledger()
        before = shown(slips(program, KINDS))
        slips(program, KINDS).clear()
        self.assertEqual(shown(slips(program, KINDS)), before)


class Faults(unittest.TestCase):
    def test_one_slip(self):
        program = ledger()
        expected = [(slip,) for slip in slips(program, ["label", "drop"])]
        self.assertEqual(shown(call(self, faults, program, ["label", "drop"])), shown(expected))
        self.assertEqual(shown(faults(program, ("label", "drop"), two=False)), shown(expected))
        self.assertEqual(shown(faults(program, ("label", "drop"), False)), shown(expected))

    def test_two_slips_in_different_cells(self):
        program = example()
        a, b, c, d = [((1, 0, 0), (1, (1,), ((0, "low", 0),))), ((1, 0, 0), (1, (0,), ((0, "high", 0),))),
                      ((1, 0, 2), (1, (0,), ((0, "high", 1),))), ((1, 0, 2), (1, (1,), ((0, "low", 1),)))]
        expected = [(a,), (b,), (c,), (d,), (a, c), (a, d), (b, c), (b, d)]
        self.assertEqual(shown(call(self, faults, program, ["hold", "label"], True)), shown(expected))
        self.assertEqual(shown(faults(program, ("hold", "label"), two=True)), shown(expected))

    def test_two_slips_plainly(self):
        for seed in range(20):
            program = random_program(seed, (0, 1, 2), writes=0.5, many=5)
            single = slips(program, ["drop", "label", "repeat"])
            expected = [(slip,) for slip in single]
            expected.extend([(one, two) for one, two in itertools.combinations(single, 2) if one[0] != two[0]])
            if len(expected) <= 200:
                self.assertEqual(shown(faults(program, ["drop", "label", "repeat"], two=True)), shown(expected))

    def test_none_at_all(self):
        self.assertEqual(call(self, faults, example(), ["next"]), [])
        self.assertEqual(call(self, faults, example(), ["next"], True), [])
        self.assertEqual(call(self, faults, example(), [], True), [])

    def test_200_and_201(self):
        for program in (labelled(200, 0), labelled(0, 100), labelled(2, 99)):
            self.assertEqual(len(call(self, faults, program, ["label"])), 200)
        for program in (labelled(201, 0), labelled(1, 100), labelled(0, 101), labelled(0, 256)):
            with self.assertRaises(TooLarge):
                call(self, faults, program, ["label"])
        with self.assertRaises(MissError):
            faults(labelled(201, 0), ["label"], two=True)
        self.assertEqual(len(slips(labelled(0, 256), ["label"])), 512)

    def test_200_and_201_with_two_slips(self):
        self.assertEqual(len(call(self, faults, spread(0, 10), ["label"], True)), 200)
        self.assertEqual(len(faults(spread(19, 0), ["label"], two=True)), 190)
        for program in (spread(2, 9), spread(20, 0), spread(0, 11), labelled(200, 0), labelled(201, 0)):
            with self.assertRaises(TooLarge):
                call(self, faults, program, ["label"], True)
        self.assertEqual(len(faults(spread(2, 9), ["label"])), 20)
        self.assertEqual(len(faults(spread(2, 9), ["label"], two=False)), 20)

    def test_more_than_200_slips_in_one_cell(self):
        writes = 4 * ((0, "w0", 0),)
        labels = tuple(f"w{at}" for at in range(51))
        program = Program(("put",), [("out", labels)], [("a", 0)], [((0, 0, 0), (0, (), writes))])
        self.assertEqual(len(faults(program, ["label"], two=True)), 200)
        program = Program(("put",), [("out", (*labels, "x"))], [("a", 0)], [((0, 0, 0), (0, (), writes))])
        with self.assertRaises(TooLarge):
            faults(program, ["label"], two=True)

    def test_returned_lists_are_new(self):
        program = ledger()
        before = shown(faults(program, ["label"]))
        faults(program, ["label"]).clear()
        self.assertEqual(shown(faults(program, ["label"])), before)


class FaultyPrograms(unittest.TestCase):
    def test_rows_of_its_slips(self):
        program = ledger()
        for fault in [*faults(program, ["label"]), *faults(program, ["hold"]), *faults(example(), [])]:
            other = call(self, faulty, program, fault)
            (cell, row), = fault
            for each in cells(program):
                self.assertEqual(row_at(other, each), row if each == cell else row_at(program, each))
            self.assertEqual((other.names, other.ports, other.modes), (program.names, program.ports, program.modes))

    def test_two_slips(self):
        program = example()
        fault = (((1, 0, 0), (1, (1,), ())), ((0, 0, 0), (0, (), ((0, "low", 0),))))
        other = call(self, faulty, program, fault)
        self.assertEqual(other, with_rows(program, list(fault)))
        self.assertEqual(run(other, [("put", 4)])[1], [(("out", "low", 4),)])
        self.assertNotEqual(other, program)

    def test_lists_in_the_place_of_tuples(self):
        program = ledger()
        for fault in faults(program, ["value"]):
            expected = faulty(program, fault)
            for passed in (as_lists(fault), as_tuples(fault), list(fault)):
                self.assertEqual(shown(call(self, faulty, program, passed)), shown(expected))

    def test_what_is_passed_is_copied(self):
        program = example()
        fault = as_lists(faults(program, ["label"])[0])
        other = faulty(program, fault)
        before = shown(other)
        fault[0][1][2][0][1] = "low"
        fault.clear()
        self.assertEqual(shown(other), before)


if __name__ == "__main__":
    unittest.main()
