"""Points 1, 2, 16, 17 and 22: comparing two programs, and lists of joint places that show that they write the same."""

import itertools
import random
import unittest

from missesnone.comparing import first_difference, is_pairing, pairing
from missesnone.errors import OtherFace, TooLarge
from missesnone.orders import ranked
from missesnone.pairs import pair_of
from missesnone.programs import Program, run, with_rows
from missesnone.texts import parse_program
from models import (
    all_joint_places, changed, least_difference, plain_compare, plain_is_pairing, random_program,
)
from samples import (
    EXAMPLE, LEDGER, as_lists, as_tuples, call, example, ledger, mixed, other_faces, parts_replaced, shown,
)

HUGE = 10 ** 5000
START_PAIR = ((0, ()), (0, ()))
PORTS = [("out", ("low", "high"))]
LOW = ((0, "low", 0),)
HIGH = ((0, "high", 0),)


def chain(many, last_row, names=("put",), more=()):
    """A program with so many modes that hold nothing, each of which leads to the one after it."""
    modes = [(f"m{at}", 0) for at in range(many)]
    rows = [((at, 0, 0), (at + 1, (), ())) for at in range(many - 1)]
    return Program(names, PORTS, modes, [*rows, ((many - 1, 0, 0), last_row), *more])


def wheel(at, empty, full):
    """A silent program that one of two names turns: of its modes the first ones hold nothing, the others the last
    integer heard with this name."""
    modes = [(f"m{mode}", 0 if mode < empty else 1) for mode in range(empty + full)]
    rows = []
    for mode, (_, count) in enumerate(modes):
        follower = (mode + 1) % len(modes)
        for position in range(2 * count + 1):
            kept = (position // 2,) if modes[follower][1] == 1 else ()
            rows.append(((mode, at, position), (follower, kept, ())))
    return Program(("a", "b", "z"), PORTS, modes, rows)


def heaper(at, length, last_row):
    """Holds the last three integers heard with one of two names, in either of two ways; on the third name it leaves its
    first mode for a chain with so many modes."""
    modes = [("m0", 0), ("m1", 1), ("m2", 2), ("m3", 3), ("n3", 3)]
    modes.extend([(f"z{step}", 0) for step in range(length)])
    rows = []
    for mode, (_, count) in enumerate(modes[:5]):
        for position in range(0, 2 * count + 1, 2):
            if count < 3:
                rows.append(((mode, at, position), (mode + 1, tuple(range(count + 1)), ())))
            else:
                rows.append(((mode, at, position), (7 - mode, (1, 2, 3), ())))
    rows.append(((0, 2, 0), (5, (), ())))
    rows.extend([((5 + step, 2, 0), (6 + step, (), ())) for step in range(length - 1)])
    return Program(("a", "b", "z"), PORTS, modes, [*rows, ((4 + length, 2, 0), last_row)])


def some_pairs(many=60):
    """Pairs of random programs with the same face, of which many write the same."""
    for seed in range(many):
        counts = [(0, 1, 2), (0, 0, 1, 1), (0, 2, 3), (0, 1)][seed % 4]
        program = random_program(seed, counts, writes=0.3 * (seed % 3 > 0))
        yield program, changed(program, seed + 100, 1 + seed % 3)


def ledgers():
    """Pairs of a larger program and of one that lacks one of its lines."""
    lines = LEDGER.split("\n")
    for at in range(7, len(lines)):
        yield ledger(), parse_program("\n".join(lines[:at] + lines[at + 1:]))


class FirstDifferences(unittest.TestCase):
    def require(self, first, second, expected):
        self.assertEqual(shown(call(self, first_difference, first, second)), shown(expected))
        self.assertEqual(shown(call(self, first_difference, second, first)), shown(expected))
        if expected is None:
            self.assertIsInstance(pairing(first, second), list)
        else:
            self.assertIsNone(call(self, pairing, first, second))

    def test_equal_programs(self):
        self.require(example(), example(), None)
        self.require(ledger(), ledger(), None)

    def test_the_examples_of_the_document(self):
        program = example()
        self.require(program, with_rows(program, [((1, 0, 0), (1, (0,), HIGH))]), [("put", 1), ("put", 0)])
        self.require(
            program, with_rows(program, [((1, 0, 2), (1, (1,), ((0, "low", 1),)))]), [("put", 0), ("put", 1)])

    def test_at_the_first_event(self):
        for row in [(0, (), LOW), (1, (0,), LOW), (1, (0,), LOW + LOW)]:
            self.require(example(), with_rows(example(), [((0, 0, 0), row)]), [("put", 0)])

    def test_each_part_of_an_output_counts(self):
        row = (3, (0, 1, 2), ((0, "low", 0), (0, "high", 3), (1, "seen", 2)))
        program = with_rows(ledger(), [((3, 1, 6), row)])
        expected = [("put", 2), ("put", 1), ("put", 0), ("take", 3)]
        for writes in [
            (), row[2][:2], row[2][:1], row[2] + row[2][:1], row[2][::-1],
            ((0, "low", 0), (0, "high", 2), (1, "seen", 2)), ((0, "low", 0), (0, "low", 3), (1, "seen", 2)),
            ((0, "low", 0), (0, "high", 3), (1, "low", 2)), ((1, "low", 0), (0, "high", 3), (1, "seen", 2)),
        ]:
            self.require(program, with_rows(program, [((3, 1, 6), (3, (0, 1, 2), writes))]), expected)

    def test_cells_that_no_input_touches(self):
        program = parse_program(EXAMPLE + "\nat b put 1 go b hold 0")
        modes = [*program.modes, ("c", 0)]
        rows = [*zip([(0, 0, 0), (1, 0, 0), (1, 0, 1), (1, 0, 2)], program.table)]
        larger = Program(program.names, program.ports, modes, [*rows, ((2, 0, 0), (0, (), LOW))])
        self.require(program, larger, None)
        self.assertEqual(pairing(program, larger), pairing(program, program))

    def test_other_modes_that_write_the_same(self):
        text = EXAMPLE.replace("go b hold 1", "go c hold 1").replace("mode b 1", "mode b 1\nmode c 1")
        text = text + "\nat c put 0 go b hold 0 write out low 0\nat c put 2 go c hold 1 write out high 1"
        self.require(example(), parse_program(text), None)
        self.assertEqual(pairing(example(), parse_program(text)), [
            START_PAIR, ((1, (0,)), (1, (0,))), ((1, (0,)), (2, (0,))),
        ])

    def test_moves_are_tried_in_order(self):
        rows = [((1, name, position), (1, (0,), LOW)) for name in (1, 0) for position in (2, 1, 0)]
        program = Program(("b", "a"), PORTS, [("m", 0), ("n", 1)], [((0, 1, 0), (1, (0,), ()))])
        for many in range(1, 7):
            name, position = [("a", 2), ("a", 1), ("a", 0), ("b", 2), ("b", 1), ("b", 0)][many - 1]
            numbers = [(1, 0), (0, 0), (0, 1)][position]
            self.require(
                program, with_rows(program, rows[:many]), [("a", numbers[0]), (name, numbers[1])])

    def test_inputs_are_gone_through_in_the_order_in_which_they_were_kept(self):
        # Both names lead to a mode of its own; at each of these the other name writes in one program only.
        modes = [("m", 0), ("n", 0), ("o", 0)]
        for names in [("a", "b"), ("b", "a")]:
            go = [((0, 0, 0), (2, (), ())), ((0, 1, 0), (1, (), ()))]
            silent = Program(names, PORTS, modes, go)
            loud = Program(names, PORTS, modes, [*go, ((1, 0, 0), (1, (), LOW)), ((2, 1, 0), (2, (), LOW))])
            self.require(silent, loud, [(names[0], 0), (names[1], 1)])

    def test_differences_show_at_the_last_event_only_and_on_no_shorter_input(self):
        lengths = []
        for first, second in [*some_pairs(), *ledgers()]:
            difference = first_difference(first, second)
            least = least_difference(first, second, 4)
            if difference is None or len(difference) > 4:
                self.assertIsNone(least)
            if difference is not None:
                lengths.append(len(difference))
                self.assertEqual(ranked(difference), difference)
                outputs, other_outputs = run(first, difference)[1], run(second, difference)[1]
                self.assertEqual(outputs[:-1], other_outputs[:-1])
                self.assertNotEqual(outputs[-1], other_outputs[-1])
                self.assertEqual(least, len(difference) if len(difference) <= 4 else None)
        self.assertTrue({1, 2, 3, 4} <= set(lengths), lengths)

    def test_plainly(self):
        same = 0
        for first, second in [*some_pairs(160), *ledgers()]:
            difference, kept = plain_compare(first, second)
            self.assertEqual(shown(first_difference(first, second)), shown(difference))
            self.assertEqual(first_difference(second, first), difference)
            if difference is None:
                same += 1
                expected = [pair_of(first, second, events) for events in kept]
                self.assertEqual(shown(pairing(first, second)), shown(expected))
        self.assertGreater(same, 30)


class Pairings(unittest.TestCase):
    def test_the_example_of_the_document(self):
        self.assertEqual(
            shown(call(self, pairing, example(), example())), shown([START_PAIR, ((1, (0,)), (1, (0,)))]))

    def test_inputs_are_kept_in_order(self):
        # Each of the moves leads to a mode of its own, but one leads to a mode that was reached before.
        modes = [("m", 0), ("n", 1), ("o", 1), ("p", 0), ("q", 1), ("r", 0)]
        rows = [
            ((0, 0, 0), (1, (0,), ())), ((0, 1, 0), (5, (), ())),
            ((1, 0, 0), (4, (0,), ())), ((1, 0, 1), (0, (), ())), ((1, 0, 2), (2, (1,), ())),
            ((1, 1, 0), (2, (0,), ())), ((1, 1, 1), (3, (), ())),
        ]
        program = Program(("a", "b"), PORTS, modes, rows)
        single = [(0, ()), (1, (0,)), (5, ()), (4, (0,)), (2, (0,)), (3, ())]
        self.assertEqual(pairing(program, program), [(place, place) for place in single])

    def test_integers_of_both_programs_are_told_apart(self):
        first, second = wheel(0, 1, 1), wheel(1, 1, 1)
        one, other = (1, (0,)), (1, (1,))
        self.assertEqual(pairing(first, second), [
            START_PAIR, (one, (0, ())), ((0, ()), one), (other, one), (one, one), (one, other),
        ])

    def test_modes_that_hold_nothing(self):
        program = chain(3, (0, (), ()))
        self.assertEqual(pairing(program, program), [((at, ()), (at, ())) for at in range(3)])

    def test_returned_lists_are_new(self):
        program = example()
        result = pairing(program, program)
        result.clear()
        self.assertEqual(len(pairing(program, program)), 2)
        difference = first_difference(program, with_rows(program, [((0, 0, 0), (0, (), LOW))]))
        difference.clear()
        self.assertEqual(first_difference(program, with_rows(program, [((0, 0, 0), (0, (), LOW))])), [("put", 0)])


class Limits(unittest.TestCase):
    def require_too_large(self, first, second):
        for function in (first_difference, pairing):
            with self.assertRaises(TooLarge):
                call(self, function, first, second)
            with self.assertRaises(TooLarge):
                function(second, first)

    def test_300_kept_inputs(self):
        first, second = wheel(0, 2, 10), wheel(1, 1, 9)
        self.assertEqual(len(call(self, pairing, first, second)), 300)
        self.assertIsNone(call(self, first_difference, first, second))

    def test_the_301st_kept_input(self):
        self.require_too_large(wheel(0, 2, 9), wheel(1, 1, 10))
        self.require_too_large(wheel(0, 2, 11), wheel(1, 7, 6))

    def test_a_chain_of_300_and_of_301(self):
        silent = (0, (), ())
        within, beyond = chain(300, silent), chain(301, silent)
        self.assertEqual(pairing(within, within), [((at, ()), (at, ())) for at in range(300)])
        self.require_too_large(beyond, beyond)

    def test_a_difference_at_the_300th_and_at_the_301st(self):
        silent, loud = (0, (), ()), (0, (), LOW)
        difference = call(self, first_difference, chain(300, silent), chain(300, loud))
        self.assertEqual(difference, [("put", at) for at in range(300)])
        self.assertIsNone(pairing(chain(300, silent), chain(300, loud)))
        self.require_too_large(chain(301, silent), chain(301, loud))

    def test_a_difference_comes_ahead_of_keeping_at_the_same_input(self):
        rows = [((299, 0, 0), (300, (), ())), ((299, 1, 0), (299, (), LOW))]
        silent = chain(301, (300, (), ()), ("a", "b"), rows[:1])
        loud = chain(301, (300, (), ()), ("a", "b"), rows)
        self.assertEqual(first_difference(silent, loud), [*[("a", at) for at in range(299)], ("b", 299)])
        self.require_too_large(silent, silent)

    def test_a_difference_that_would_be_found_later(self):
        # The 299th kept input leads on to two more; the first of them would show the difference.
        rows = [((298, 1, 0), (300, (), ())), ((299, 0, 0), (299, (), ()))]
        silent = chain(301, (300, (), ()), ("a", "b"), rows)
        loud = with_rows(silent, [((299, 0, 0), (299, (), LOW))])
        self.require_too_large(silent, loud)
        fewer = chain(300, (299, (), ()), ("a", "b"), [((298, 1, 0), (297, (), ()))])
        self.assertEqual(len(first_difference(fewer, with_rows(fewer, [((299, 0, 0), (299, (), LOW))]))), 300)

    def test_within_16_modes(self):
        silent, loud = (0, (), ()), (0, (), LOW)
        for length in range(1, 5):
            first, second = heaper(0, length, silent), heaper(1, length, loud)
            difference, kept = plain_compare(first, second)
            self.assertEqual(first_difference(first, second), difference)
            self.assertEqual(difference, [("z", at) for at in range(length + 1)])
            self.assertLess(len(kept), 300)
        first, second = heaper(0, 11, silent), heaper(1, 11, loud)
        self.assertEqual(plain_compare(first, second)[0], "too large")
        self.assertEqual(plain_compare(first, second, 10000)[0], [("z", at) for at in range(12)])
        self.require_too_large(first, second)


class OtherFaces(unittest.TestCase):
    def test_other_names_ports_and_labels(self):
        for other in other_faces():
            for first, second in [(example(), other), (other, example())]:
                for function in (first_difference, pairing):
                    with self.assertRaises(OtherFace):
                        call(self, function, first, second)
                for value in ([START_PAIR], [], None, 0, "same", True, [[START_PAIR]]):
                    with self.assertRaises(OtherFace):
                        call(self, is_pairing, first, second, value)

    def test_other_modes_are_no_other_face(self):
        program = example()
        other = Program(program.names, program.ports, [("c", 0)], [])
        self.assertEqual(first_difference(program, other), [("put", 1), ("put", 0)])

    def test_ahead_of_too_large(self):
        program = chain(301, (0, (), ()))
        with self.assertRaises(TooLarge):
            first_difference(program, program)
        other = chain(301, (0, (), ()), ("take",))
        for function in (first_difference, pairing):
            with self.assertRaises(OtherFace):
                function(program, other)


class Checking(unittest.TestCase):
    def require(self, first, second, value, expected):
        with self.subTest(shown(value)[:200]):
            self.assertIs(call(self, is_pairing, first, second, value), expected)

    def test_pairings_hold(self):
        for first, second in some_pairs(160):
            pairs = pairing(first, second)
            if pairs is not None:
                self.require(first, second, pairs, True)
                self.require(first, second, as_lists(pairs), True)
                self.require(first, second, as_tuples(pairs), True)
                self.require(first, second, mixed(pairs, random.Random(4)), True)

    def test_the_order_of_all_but_the_first_is_free(self):
        first, second = wheel(0, 1, 1), wheel(1, 1, 1)
        pairs = pairing(first, second)
        for order in itertools.permutations(pairs):
            self.assertIs(is_pairing(first, second, list(order)), order[0] == START_PAIR)

    def test_joint_places_may_be_repeated(self):
        pairs = pairing(example(), example())
        self.require(example(), example(), [*pairs, *pairs], True)
        self.require(example(), example(), [*pairs, as_lists(pairs[1]), START_PAIR], True)

    def test_none_may_be_missing(self):
        for first, second in some_pairs():
            pairs = pairing(first, second)
            if pairs is not None:
                for at in range(len(pairs)):
                    self.require(first, second, pairs[:at] + pairs[at + 1:], False)

    def test_joint_places_that_no_input_leads_to(self):
        program = ledger()
        pairs = pairing(program, program)
        self.assertNotIn(((1, (0,)), (1, (1,))), pairs)
        quiet = Program(program.names, program.ports, program.modes, [])
        self.require(quiet, quiet, [START_PAIR], True)
        self.require(quiet, quiet, [START_PAIR, ((1, (0,)), (1, (1,))), ((2, (0, 2)), (3, (0, 1, 2)))], True)
        self.require(quiet, program, [START_PAIR], False)
        self.require(program, program, [*pairs, ((1, (0,)), (1, (1,)))], False)

    def test_both_must_write_the_same(self):
        program = example()
        pairs = pairing(program, program)
        for cell, row in [
            ((1, 0, 0), (1, (0,), HIGH)), ((1, 0, 0), (1, (0,), ())), ((1, 0, 0), (1, (0,), LOW + LOW)),
            ((1, 0, 1), (1, (0,), LOW)), ((1, 0, 2), (1, (1,), HIGH)), ((0, 0, 0), (1, (0,), LOW)),
        ]:
            self.require(program, with_rows(program, [(cell, row)]), pairs, False)
            self.require(with_rows(program, [(cell, row)]), program, pairs, False)

    def test_also_if_there_are_more_than_300(self):
        program = chain(301, (0, (), ()))
        self.require(program, program, [((at, ()), (at, ())) for at in range(301)], True)
        self.require(program, program, [((at, ()), (at, ())) for at in range(300)], False)
        first, second = wheel(0, 2, 9), wheel(1, 1, 10)
        pairs = all_joint_places(first, second)
        self.assertEqual(len(pairs), 301)
        self.require(first, second, pairs, True)
        self.require(first, second, pairs[:-1], False)

    def test_no_lists_of_joint_places(self):
        for value in (None, True, False, 0, 1, -1, HUGE, "", "same", [], (), [[]], [()], [None], ["ab"], [0],
                      START_PAIR, ("same", [START_PAIR]), [START_PAIR, None], [START_PAIR, []]):
            self.require(chain(1, (0, (), ())), chain(1, (0, (), ())), value, False)
        self.require(chain(1, (0, (), ())), chain(1, (0, (), ())), [START_PAIR], True)

    def test_each_part_replaced(self):
        program = example()
        pairs = pairing(program, program)
        for fresh in (None, True, False, -1, 2, 0, 1, HUGE, -HUGE, "", "a", "01", [], (), [0], (0, 0), [[]], [None],
                      [True], [False], [(0, ()), (0, ())], (1, (0,))):
            for value in parts_replaced(pairs, fresh):
                self.require(program, program, value, plain_is_pairing(program, program, value))

    def test_true_and_false_are_no_integers(self):
        program = example()
        first, last = pairing(program, program)
        for pairs in [
            [((False, ()), (0, ())), last], [((0, ()), (False, ())), last], [first, ((True, (0,)), (1, (0,)))],
            [first, ((1, (0,)), (True, (0,)))], [first, ((1, (False,)), (1, (0,)))],
            [first, ((1, (0,)), (1, (False,)))], [first, last, ((1, (0,)), (1, (True,)))],
            [first, last, ((1, (False,)), (1, (True,)))],
        ]:
            self.require(program, program, pairs, False)
            self.require(program, program, as_lists(pairs), False)

    def test_modes_and_ranks_that_do_not_fit(self):
        quiet = Program(("put",), PORTS, [("a", 0), ("b", 1), ("c", 2), ("d", 3)], [])
        for pair, expected in [
            (((2, (0, 1)), (1, (0,))), True), (((2, (0, 1)), (1, (1,))), True), (((2, (0, 2)), (1, (1,))), True),
            (((2, (1, 2)), (1, (0,))), True), (((2, (0, 1)), (2, (2, 3))), True), (((2, (0, 2)), (2, (1, 3))), True),
            (((2, (0, 1)), (0, ())), True), (((3, (0, 1, 2)), (1, (1,))), True), (((3, (0, 0, 1)), (1, (1,))), False),
            (((3, (0, 1, 1)), (1, (1,))), False), (((3, (0, 2, 1)), (1, (1,))), False), (((4, ()), (0, ())), False),
            (((2, (0, 2)), (1, (0,))), False), (((2, (0, 1)), (1, (3,))), False), (((2, (1, 2)), (1, (1,))), False),
            (((2, (1, 0)), (1, (0,))), False), (((2, (0, 0)), (1, (1,))), False), (((2, (0, 0)), (1, (0,))), False),
            (((2, (0,)), (1, (0,))), False), (((2, (0, 1, 2)), (1, (0,))), False), (((2, ()), (1, (0,))), False),
            (((0, (0,)), (1, (0,))), False), (((1, ()), (1, (0,))), False), (((4, (0,)), (1, (0,))), False),
            (((-1, (0, 1)), (1, (0,))), False), (((1, (0,)), (-2, (0,))), False), (((1, (-1,)), (1, (0,))), False),
            (((1, (1,)), (0, ())), False), (((1, (1,)), (1, (1,))), False), (((HUGE, ()), (0, ())), False),
            (((1, (HUGE,)), (0, ())), False), (((1, (0,)),), False), (((1, (0,)), (0, ()), (0, ())), False),
            (((1,), (0, ())), False), (((1, (0,), ()), (0, ())), False), (((1, "0"), (0, ())), False),
            ((("1", (0,)), (0, ())), False), (((1, ("0",)), (0, ())), False), (((1, ([0],)), (0, ())), False),
            (((1, 0), (0, ())), False), ((((1,), (0,)), (0, ())), False), (((None, ()), (0, ())), False),
            (((2, (0, None)), (0, ())), False), (((2, (None, 0)), (1, (1,))), False), ("00", False),
        ]:
            self.require(quiet, quiet, [START_PAIR, pair], expected)
            self.require(quiet, quiet, as_lists([START_PAIR, pair]), expected)
            # Beside all joint places, only the form of the last one counts.
            self.require(quiet, quiet, [START_PAIR, *all_joint_places(quiet, quiet), pair], expected)

    def test_each_program_has_modes_of_its_own(self):
        first = Program(("put",), PORTS, [("a", 0), ("b", 1), ("c", 2)], [])
        second = Program(("put",), PORTS, [("a", 0), ("b", 2)], [])
        self.require(first, second, [START_PAIR, ((2, (0, 1)), (1, (0, 1)))], True)
        self.require(first, second, [START_PAIR, ((1, (0,)), (1, (0, 1)))], True)
        self.require(first, second, [START_PAIR, ((1, (0,)), (2, (0, 1)))], False)
        self.require(first, second, [START_PAIR, ((1, (0,)), (1, (0,)))], False)
        self.require(second, first, [START_PAIR, ((2, (0, 1)), (1, (0,)))], False)

    def test_deep_and_long_values(self):
        deep = []
        for _ in range(100000):
            deep = [deep]
        program = example()
        first, last = pairing(program, program)
        for value in [
            deep, [deep], [first, deep], [first, last, deep], [first, last, (deep, deep)],
            [first, last, ((1, deep), (1, (0,)))], [first, last, ((1, (deep,)), (1, (0,)))],
            [first, last, ((deep, (0,)), (1, (0,)))], [first, last, ((1, (0,)), deep)],
            [((0, ()), (0, deep)), last],
        ]:
            self.assertIs(is_pairing(program, program, value), False)
        self.require(program, program, [first, *(1000 * [last])], True)

    def test_changed_lists_plainly(self):
        chance = random.Random(7)
        told = []
        for first, second in some_pairs(40):
            pairs = pairing(first, second)
            possible = all_joint_places(first, second)
            if pairs is None:
                pairs = [START_PAIR, *chance.sample(possible, 3)]
            for at in range(12):
                value = [pair for pair in pairs if chance.random() < 0.95]
                if at % 3 > 0:
                    value.extend(chance.sample(possible, at % 3))
                value = mixed(value, chance)
                expected = plain_is_pairing(first, second, value)
                told.append(expected)
                self.require(first, second, value, expected)
            self.require(first, second, possible, plain_is_pairing(first, second, possible))
        self.assertTrue(50 < sum(told) < len(told) - 50, (sum(told), len(told)))


if __name__ == "__main__":
    unittest.main()
