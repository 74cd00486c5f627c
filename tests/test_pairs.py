"""Points 1, 2, 14 and 15: joint places, moves, continued inputs, and what follows a joint place."""

import itertools
import unittest

from missesnone.orders import all_inputs, ranked
from missesnone.pairs import continued, moves_at, pair_after, pair_of
from missesnone.programs import Program, run
from models import (
    all_joint_places, changed, plain_after, plain_continued, plain_moves, plain_pair, random_program,
)
from samples import as_lists, as_tuples, call, example, ledger, shown

HUGE = 10 ** 5000
START_PAIR = ((0, ()), (0, ()))


def keeper(name, at):
    """A program whose only integer held is the last one heard with the name."""
    names = ("put", "take")
    rows = [((0, at, 0), (1, (0,), ())), ((1, at, 0), (1, (0,), ())), ((1, at, 2), (1, (1,), ()))]
    return Program(names, [("out", ("low",))], [("a", 0), (name, 1)], rows)


def both():
    """One program that holds the last integer of put and one that holds the last one of take."""
    return keeper("b", 0), keeper("c", 1)


def some_pairs():
    """Pairs of random programs with the same face."""
    for seed in range(12):
        program = random_program(seed, counts=[(0, 1, 2), (0, 0, 1, 3), (0, 2, 3)][seed % 3])
        yield program, changed(program, seed + 100, 3)
        yield program, random_program(seed + 200, counts=(0, 1, 1, 2))


class JointPlaces(unittest.TestCase):
    def test_the_empty_input(self):
        self.assertEqual(shown(call(self, pair_of, example(), ledger(), [])), shown(START_PAIR))
        self.assertEqual(shown(pair_of(example(), example(), ())), shown(START_PAIR))

    def test_ranks_among_all_that_either_holds(self):
        first, second = both()
        for events, expected in [
            ([("put", 7)], ((1, (0,)), (0, ()))),
            ([("take", 7)], ((0, ()), (1, (0,)))),
            ([("put", 3), ("take", 9)], ((1, (0,)), (1, (1,)))),
            ([("put", 9), ("take", 3)], ((1, (1,)), (1, (0,)))),
            ([("put", 5), ("take", 5)], ((1, (0,)), (1, (0,)))),
            ([("put", 3), ("take", 9), ("put", 20)], ((1, (1,)), (1, (0,)))),
            ([("put", HUGE), ("take", -HUGE), ("take", HUGE - 1)], ((1, (1,)), (1, (0,)))),
        ]:
            self.assertEqual(shown(call(self, pair_of, first, second, events)), shown(expected))
            self.assertEqual(shown(call(self, pair_of, first, second, as_lists(events))), shown(expected))
            self.assertEqual(shown(call(self, pair_of, first, second, as_tuples(events))), shown(expected))
            self.assertEqual(pair_of(second, first, events), (expected[1], expected[0]))

    def test_what_is_no_longer_held_does_not_count(self):
        program = example()
        events = [("put", 1), ("put", 2), ("put", 3)]
        self.assertEqual(run(program, events)[0], (1, (3,)))
        self.assertEqual(pair_of(program, program, events), ((1, (0,)), (1, (0,))))

    def test_several_held_integers(self):
        program = ledger()
        events = [("put", 5), ("put", 1), ("put", 9)]
        self.assertEqual(pair_of(program, program, events), ((3, (0, 1, 2)), (3, (0, 1, 2))))
        other = changed(program, 4, 0)
        self.assertEqual(pair_of(program, other, events[:2]), ((2, (0, 1)), (2, (0, 1))))

    def test_plainly(self):
        for first, second in some_pairs():
            for events in all_inputs(first.names, 3):
                self.assertEqual(shown(pair_of(first, second, events)), shown(plain_pair(first, second, events)))

    def test_alike_inputs_lead_to_the_same_joint_place(self):
        for first, second in some_pairs():
            for events in all_inputs(first.names, 3):
                alike = [(name, 3 * number - HUGE) for name, number in events]
                self.assertEqual(pair_of(first, second, alike), pair_of(first, second, events))


class Moves(unittest.TestCase):
    def test_nothing_is_held(self):
        self.assertEqual(call(self, moves_at, ("put", "take"), START_PAIR), [("put", 0), ("take", 0)])

    def test_by_name_then_by_position(self):
        pair = ((1, (0,)), (1, (1,)))
        expected = [(name, position) for name in ("b", "a") for position in range(5)]
        self.assertEqual(shown(call(self, moves_at, ("b", "a"), pair)), shown(expected))
        self.assertEqual(shown(call(self, moves_at, ["b", "a"], as_lists(pair))), shown(expected))

    def test_different_ranks_count_once(self):
        for pair, last in [
            (((1, (0,)), (1, (0,))), 2), (((2, (0, 1)), (1, (1,))), 4), (((3, (0, 1, 2)), (3, (0, 1, 2))), 6),
            (((3, (0, 2, 4)), (3, (1, 3, 5))), 12), (((3, (0, 1, 2)), (0, ())), 6), (((0, ()), (1, (0,))), 2),
        ]:
            self.assertEqual(call(self, moves_at, ("put",), pair), [("put", at) for at in range(last + 1)])

    def test_returned_lists_are_new(self):
        moves_at(("put",), START_PAIR).clear()
        self.assertEqual(moves_at(("put",), START_PAIR), [("put", 0)])


class Continued(unittest.TestCase):
    def require(self, first, second, events, move, expected):
        before = list(events)
        for passed in (events, as_lists(events), as_tuples(events)):
            result = call(self, continued, first, second, passed, move)
            self.assertEqual(shown(result), shown(expected))
            self.assertEqual(shown(call(self, continued, first, second, passed, list(move))), shown(expected))
        self.assertEqual(events, before)

    def test_the_empty_input(self):
        self.require(example(), example(), [], ("put", 0), [("put", 0)])
        self.require(ledger(), ledger(), [], ("take", 0), [("take", 0)])

    def test_nothing_held_is_greater_than_every_integer(self):
        program = ledger()
        events = [("take", 5), ("take", -2)]
        self.assertEqual(run(program, events)[0], (0, ()))
        self.require(program, program, events, ("put", 0), [("take", 1), ("take", 0), ("put", 2)])

    def test_at_each_position_of_one_held_integer(self):
        program = example()
        for position, expected in [
            (0, [("put", 1), ("put", 0)]), (1, [("put", 0), ("put", 0)]), (2, [("put", 0), ("put", 1)]),
        ]:
            self.require(program, program, [("put", 40)], ("put", position), expected)

    def test_the_first_position_is_next_to_the_least_held_integer(self):
        program = example()
        events = [("put", 1), ("put", 9), ("put", 5), ("put", 9)]
        self.assertEqual(run(program, events)[0], (1, (9,)))
        for position, numbers in [(0, [0, 3, 1, 3, 2]), (1, [0, 2, 1, 2, 2]), (2, [0, 2, 1, 2, 3])]:
            self.require(program, program, events, ("put", position), [("put", number) for number in numbers])

    def test_the_last_position_is_next_to_the_greatest_held_integer(self):
        program = keeper("b", 0)
        events = [("take", 9), ("put", 3), ("take", 5), ("take", 1)]
        self.assertEqual(run(program, events)[0], (1, (3,)))
        for position, numbers in [(0, [4, 2, 3, 0, 1]), (1, [3, 1, 2, 0, 1]), (2, [4, 1, 3, 0, 2])]:
            self.require(program, program, events, ("take", position), [
                *[(name, number) for (name, _), number in zip(events, numbers)], ("take", numbers[-1])])

    def test_positions_among_what_both_hold(self):
        first, second = both()
        events = [("put", 3), ("take", 9)]
        for position, numbers in [
            (0, [1, 2, 0]), (1, [0, 1, 0]), (2, [0, 2, 1]), (3, [0, 1, 1]), (4, [0, 1, 2]),
        ]:
            expected = [("put", numbers[0]), ("take", numbers[1]), ("put", numbers[2])]
            self.require(first, second, events, ("put", position), expected)

    def test_between_two_held_integers_next_to_the_one_below(self):
        first, second = both()
        events = [("put", 5), ("put", 2), ("take", 5), ("take", 8)]
        self.assertEqual(pair_of(first, second, events), ((1, (0,)), (1, (1,))))
        self.require(first, second, events, ("take", 2), [
            ("put", 2), ("put", 0), ("take", 2), ("take", 3), ("take", 1)])
        self.require(first, second, events, ("take", 4), [
            ("put", 1), ("put", 0), ("take", 1), ("take", 2), ("take", 3)])

    def test_large_integers(self):
        program = example()
        self.require(program, program, [("put", -HUGE), ("put", HUGE)], ("put", 0), [
            ("put", 0), ("put", 2), ("put", 1)])

    def test_plainly(self):
        for first, second in some_pairs():
            for events in [[], *all_inputs(first.names, 2)]:
                for move in moves_at(first.names, pair_of(first, second, events)):
                    result = continued(first, second, events, move)
                    self.assertEqual(shown(result), shown(plain_continued(first, second, events, move)))
                    self.assertEqual(ranked(result), result)

    def test_longer_inputs_plainly(self):
        for seed, (first, second) in enumerate(some_pairs()):
            events = []
            for at in range(14):
                moves = moves_at(first.names, pair_of(first, second, events))
                move = moves[(7 * at * at + seed) % len(moves)]
                longer = continued(first, second, events, move)
                self.assertEqual(longer, plain_continued(first, second, events, move))
                events = longer
            self.assertEqual(len(events), 14)


class After(unittest.TestCase):
    def require(self, first, second, pair, move, expected):
        self.assertEqual(shown(call(self, pair_after, first, second, pair, move)), shown(expected))
        self.assertEqual(shown(call(self, pair_after, first, second, as_lists(pair), list(move))), shown(expected))

    def test_the_example_of_the_document(self):
        program = example()
        pair = ((1, (0,)), (1, (0,)))
        self.require(program, program, START_PAIR, ("put", 0), (pair, (), ()))
        for position, output in [
            (0, (("out", "low", 0),)), (1, ()), (2, (("out", "high", 1),)),
        ]:
            self.require(program, program, pair, ("put", position), (pair, output, output))

    def test_ranks_among_what_both_hold_and_the_event(self):
        rows = [((1, 0, at), (1, (0,), ((0, "low", 0),))) for at in (0, 1)]
        rows.append(((1, 0, 2), (0, (), ((0, "low", 0), (0, "low", 1)))))
        modes = [("a", 0), ("b", 1)]
        first = Program(("put",), [("out", ("low",))], modes, rows)
        second = Program(("put",), [("out", ("low",))], modes, [])
        pair = ((1, (0,)), (1, (1,)))
        low = [("out", "low", at) for at in range(3)]
        for position, expected in [
            (0, (pair, (low[0],), ())),
            (1, (pair, (low[0],), ())),
            (2, (((0, ()), (1, (0,))), (low[0], low[1]), ())),
            (3, (((0, ()), (1, (0,))), (low[0], low[1]), ())),
            (4, (((0, ()), (1, (0,))), (low[0], low[2]), ())),
        ]:
            self.require(first, second, pair, ("put", position), expected)
            swapped = (tuple(reversed(expected[0])), expected[2], expected[1])
            self.require(second, first, tuple(reversed(pair)), ("put", position), swapped)

    def test_plainly_at_every_joint_place(self):
        for first, second in itertools.islice(some_pairs(), 6):
            for pair in all_joint_places(first, second):
                for move in plain_moves(first.names, pair):
                    result = pair_after(first, second, pair, move)
                    self.assertEqual(shown(result), shown(plain_after(first, second, pair, move)))

    def test_it_is_where_the_continued_input_leads(self):
        for first, second in some_pairs():
            for events in [[], *all_inputs(first.names, 2)]:
                pair = pair_of(first, second, events)
                for move in moves_at(first.names, pair):
                    longer = continued(first, second, events, move)
                    after, output, other_output = pair_after(first, second, pair, move)
                    self.assertEqual(after, pair_of(first, second, longer))
                    for program, told in ((first, output), (second, other_output)):
                        written = run(program, longer)[1][-1]
                        self.assertEqual([each[:2] for each in told], [each[:2] for each in written])
                    written = [*run(first, longer)[1][-1], *run(second, longer)[1][-1]]
                    numbers = list(zip([each[2] for each in [*output, *other_output]], [each[2] for each in written]))
                    for one, another in itertools.product(numbers, repeat=2):
                        self.assertEqual(one[0] < another[0], one[1] < another[1])


if __name__ == "__main__":
    unittest.main()
