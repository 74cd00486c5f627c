"""Points 1, 2, 24 and 25: the fewest tests, and the best tests with a budget."""

import itertools
import unittest

from missesnone.errors import TooLarge
from missesnone.faults import faults, faulty
from missesnone.fewest import best, fewest
from missesnone.orders import all_inputs
from missesnone.programs import Program, run
from models import few_faults, random_program, some_programs
from samples import as_lists, as_tuples, call, example, shown

PORTS = [("out", ("low", "high"))]
LOW = ((0, "low", 0),)
HIGH = ((0, "high", 0),)


def caught_by(program, some, inputs):
    """For each input the set of the numbers of the faults that it catches."""
    others = [faulty(program, fault) for fault in some]
    return [
        {number for number, other in enumerate(others) if run(other, events)[1] != run(program, events)[1]}
        for events in inputs
    ]


def plain_fewest(program, some, length):
    """Point 24 word by word."""
    inputs = all_inputs(program.names, length)
    caught = caught_by(program, some, inputs)
    everything = sorted(set().union(*caught))

    def looked_for(chosen, many):
        left = [number for number in everything if not any(number in caught[at] for at in chosen)]
        if not left:
            return chosen
        if len(chosen) < many:
            for at in range(len(inputs)):
                if left[0] in caught[at]:
                    found = looked_for([*chosen, at], many)
                    if found is not None:
                        return found
        return None

    for many in range(4):
        found = looked_for([], many)
        if found is not None:
            return everything, [inputs[at] for at in found]
    return everything, None


def plain_best(program, some, length, budget):
    """Point 25 word by word."""
    inputs = all_inputs(program.names, length)
    caught = caught_by(program, some, inputs)
    sequences = list(itertools.combinations(range(len(inputs)), min(budget, len(inputs))))
    counts = [len(set().union(*[caught[at] for at in sequence])) for sequence in sequences]
    return [inputs[at] for at in sequences[counts.index(max(counts))]]


def least_number(program, some, length):
    """The least number of inputs that together catch what any input catches, or None if it is more than 3."""
    inputs = all_inputs(program.names, length)
    caught = [part for part in caught_by(program, some, inputs) if part]
    everything = set().union(*caught)
    for many in range(4):
        for chosen in itertools.combinations(caught, many):
            if set().union(*chosen) == everything:
                return many
    return None


def split(many):
    """A program that goes on the first event with one of several names to a mode of its own, in which it writes; each
    fault is about another one of these modes, so that no input of two events catches two of them."""
    names = [f"n{at}" for at in range(many)]
    modes = [("m", 0), *[(f"m{at}", 0) for at in range(many)]]
    go = [((0, at, 0), (at + 1, (), ())) for at in range(many)]
    program = Program(tuple(names), PORTS, modes, [*go, *[((at + 1, 0, 0), (at + 1, (), LOW)) for at in range(many)]])
    return program, [(((at + 1, 0, 0), (at + 1, (), HIGH)),) for at in range(many)]


def named(many):
    """A program that hears so many names, each of which has its fault."""
    rows = [((0, at, 0), (0, (), LOW)) for at in range(many)]
    program = Program(tuple(f"n{at}" for at in range(many)), PORTS, [("m", 0)], rows)
    return program, [(((0, at, 0), (0, (), HIGH)),) for at in range(many)]


class Fewest(unittest.TestCase):
    def require(self, program, some, length, expected):
        result = call(self, fewest, program, some, length)
        self.assertEqual(shown(result), shown(expected))
        self.assertEqual(shown(fewest(program, as_lists(some), length)), shown(expected))
        self.assertEqual(shown(fewest(program, as_tuples(some), length)), shown(expected))

    def test_the_example_of_the_document(self):
        program = example()
        some = faults(program, ["label"])
        down, up = [("put", 1), ("put", 0)], [("put", 0), ("put", 1)]
        self.require(program, some, 0, ([], []))
        self.require(program, some, 1, ([], []))
        self.require(program, some, 2, ([0, 1], [down, up]))
        self.require(program, some, 3, ([0, 1], [[("put", 2), ("put", 0), ("put", 1)]]))
        self.require(program, some[1:], 2, ([0], [up]))

    def test_no_faults(self):
        for length in range(5):
            self.require(example(), [], length, ([], []))

    def test_no_input_catches_anything(self):
        program = Program(("put",), PORTS, [("a", 0), ("b", 0)], [])
        some = [(((1, 0, 0), (1, (), LOW)),), (((1, 0, 0), (1, (), HIGH)),)]
        for length in range(5):
            self.require(program, some, length, ([], []))

    def test_faults_that_are_not_caught_by_this_length_do_not_count(self):
        program = Program(("put",), PORTS, [("a", 0), ("b", 0), ("c", 0)], [
            ((0, 0, 0), (1, (), ())), ((1, 0, 0), (2, (), ()))])
        some = [(((at, 0, 0), (2, (), LOW)),) for at in (2, 1, 0, 1)]
        self.require(program, some, 0, ([], []))
        self.require(program, some, 1, ([2], [[("put", 0)]]))
        self.require(program, some, 2, ([1, 2, 3], [[("put", 1), ("put", 0)]]))
        self.require(program, some, 3, ([0, 1, 2, 3], [[("put", 2), ("put", 1), ("put", 0)]]))

    def test_numbers_of_tests_from_0_to_3_and_more(self):
        for many in range(1, 6):
            program, some = split(many)
            numbers = list(range(many))
            tests = [[(f"n{at}", 1), ("n0", 0)] for at in range(many)]
            self.require(program, some, 1, ([], []))
            self.require(program, some, 2, (numbers, tests if many <= 3 else None))
            self.require(program, some[:2], 2, (numbers[:2], tests[:2]))
            self.require(program, some[:3], 2, (numbers[:3], tests[:3]))

    def test_the_order_in_which_the_tests_were_chosen(self):
        program, some = split(3)
        tests = [[(f"n{at}", 1), ("n0", 0)] for at in range(3)]
        for order in itertools.permutations(range(3)):
            self.require(program, [some[at] for at in order], 2, ([0, 1, 2], [tests[at] for at in order]))
            self.require(program, [some[at] for at in order for _ in range(2)], 2, (
                [0, 1, 2, 3, 4, 5], [tests[at] for at in order]))

    def test_a_test_that_catches_less_may_be_the_better_one(self):
        # On the first name one event shows two faults, and another name one of these and two more.
        program = Program(("a", "b", "c"), PORTS, [("m", 0)], [])
        loud = {at: ((0, at, 0), (0, (), LOW)) for at in range(3)}
        quiet = {at: ((0, at, 0), (0, (), ())) for at in range(3)}
        some = [
            (loud[0], loud[1]), (loud[0], quiet[1]), (loud[1], quiet[2]), (loud[1], loud[2]), (quiet[0], loud[2]),
        ]
        self.assertEqual(caught_by(program, some, all_inputs(program.names, 1)), [{0, 1}, {0, 2, 3}, {3, 4}])
        self.require(program, some, 1, ([0, 1, 2, 3, 4], [[("a", 0)], [("b", 0)], [("c", 0)]]))
        self.require(program, some[:4], 1, ([0, 1, 2, 3], [[("a", 0)], [("b", 0)]]))
        self.require(program, [some[0], some[2], some[3]], 1, ([0, 1, 2], [[("b", 0)]]))
        self.require(program, [some[0], some[3], some[4]], 1, ([0, 1, 2], [[("a", 0)], [("c", 0)]]))

    def test_plainly(self):
        counts = {}
        for program in [*some_programs(), *[random_program(seed, (0, 1, 2), ("put",), 0.6, 9) for seed in range(12)]]:
            some = few_faults(program)[::3]
            for length in range(5 if len(program.names) == 1 else 3):
                result = call(self, fewest, program, some, length)
                self.assertEqual(shown(result), shown(plain_fewest(program, some, length)))
                many = None if result[1] is None else len(result[1])
                self.assertEqual(many, least_number(program, some, length))
                counts[many] = counts.get(many, 0) + 1
        self.assertTrue(min(counts.get(many, 0) for many in (0, 1, 2, 3)) >= 2, counts)

    def test_returned_lists_are_new(self):
        program = example()
        some = faults(program, ["label"])
        caught, tests = fewest(program, some, 2)
        caught.clear()
        tests[0].clear()
        self.assertEqual(fewest(program, some, 2)[0], [0, 1])
        self.assertEqual(fewest(program, some, 2)[1][0], [("put", 1), ("put", 0)])


class Best(unittest.TestCase):
    def require(self, program, some, length, budget, expected):
        result = call(self, best, program, some, length, budget)
        self.assertEqual(shown(result), shown(expected))
        self.assertEqual(shown(best(program, as_lists(some), length, budget)), shown(expected))
        self.assertEqual(shown(best(program, as_tuples(some), length, budget)), shown(expected))

    def test_the_example_of_the_document(self):
        program = example()
        some = faults(program, ["label"])
        one, same, down, up = [("put", 0)], [("put", 0), ("put", 0)], [("put", 1), ("put", 0)], [("put", 0), ("put", 1)]
        for length in range(5):
            self.require(program, some, length, 0, [])
        self.require(program, some, 1, 1, [one])
        self.require(program, some, 2, 1, [down])
        self.require(program, some, 2, 2, [down, up])
        self.require(program, some[1:], 2, 2, [one, up])
        self.require(program, some[:1], 2, 2, [one, down])
        self.require(program, [], 2, 2, [one, down])
        self.require(program, some, 3, 1, [[("put", 2), ("put", 0), ("put", 1)]])
        self.require(program, some, 3, 2, [one, [("put", 2), ("put", 0), ("put", 1)]])
        self.assertEqual(all_inputs(("put",), 2), [one, down, same, up])

    def test_fewer_inputs_than_the_budget(self):
        program = example()
        for some in ([], faults(program, ["label"])):
            for budget in range(3):
                self.require(program, some, 0, budget, [])
                self.require(program, some, 1, budget, [[("put", 0)]][:budget])

    def test_no_input_catches_anything(self):
        program = Program(("a", "b"), PORTS, [("m", 0), ("n", 0)], [])
        some = [(((1, 0, 0), (1, (), LOW)),)]
        for length in (1, 2):
            for budget in range(3):
                self.require(program, some, length, budget, [[("a", 0)], [("b", 0)]][:budget])

    def test_the_first_sequence_that_catches_as_many_as_any(self):
        program, some = named(4)
        tests = [[(f"n{at}", 0)] for at in range(4)]
        self.require(program, some, 1, 1, tests[:1])
        self.require(program, some, 1, 2, tests[:2])
        self.require(program, some[1:], 1, 1, tests[1:2])
        self.require(program, some[1:], 1, 2, tests[1:3])
        self.require(program, some[2:], 1, 2, tests[2:4])
        self.require(program, some[3:], 1, 2, [tests[0], tests[3]])
        self.require(program, [some[3], some[3], some[0], some[2]], 1, 1, [tests[3]])
        self.require(program, [some[3], some[3], some[0], some[2]], 1, 2, [tests[0], tests[3]])

    def test_plainly(self):
        for program in [*some_programs(), *[random_program(seed, (0, 1, 2), ("put",), 0.6, 9) for seed in range(6)]]:
            some = few_faults(program)[::3]
            for length in range(5 if len(program.names) == 1 else 3):
                for budget in range(3):
                    result = call(self, best, program, some, length, budget)
                    self.assertEqual(shown(result), shown(plain_best(program, some, length, budget)))

    def test_returned_lists_are_new(self):
        program = example()
        result = best(program, [], 2, 2)
        result[0].clear()
        self.assertEqual(best(program, [], 2, 2)[0], [("put", 0)])


class Limits(unittest.TestCase):
    def require(self, program, some, length, many):
        if many <= 100:
            self.assertEqual(len(all_inputs(program.names, length)), many)
            self.assertEqual(len(call(self, fewest, program, some, length)), 2)
            for budget in range(3):
                self.assertEqual(len(call(self, best, program, some, length, budget)), budget)
            return
        with self.assertRaises(TooLarge):
            call(self, fewest, program, some, length)
        for budget in range(3):
            with self.assertRaises(TooLarge):
                call(self, best, program, some, length, budget)

    def test_names_and_lengths(self):
        for names, length, many in [(1, 4, 92), (2, 2, 14), (2, 3, 118), (2, 4, 1318), (3, 2, 30), (3, 3, 381),
                                    (4, 2, 52), (4, 3, 884), (4, 4, 20084)]:
            program, some = named(names)
            self.require(program, some, length, many)
            self.require(program, [], length, many)

    def test_the_100th_and_the_101st_input(self):
        for many in (99, 100, 101):
            program, some = named(many)
            self.require(program, some, 1, many)
            self.require(program, [], 1, many)
        program, some = named(100)
        self.assertEqual(fewest(program, some, 1), (list(range(100)), None))
        self.assertEqual(fewest(program, some[97:], 1), ([0, 1, 2], [[(f"n{at}", 0)] for at in (97, 98, 99)]))
        self.assertEqual(best(program, some[98:], 1, 2), [[("n98", 0)], [("n99", 0)]])

    def test_many_faults_and_inputs(self):
        program = random_program(5, (0, 1, 2, 3), ("put",), 0.9, 16)
        some = few_faults(program)
        some = [*some, *[(first[0], second[0]) for first in some[:12] for second in some[12:24]
                         if first[0][0] != second[0][0]]][:200]
        self.assertEqual(shown(call(self, fewest, program, some, 4)), shown(plain_fewest(program, some, 4)))


if __name__ == "__main__":
    unittest.main()
