"""Points 1, 2, 20 and 21: what tests catch, verdicts, suites, and what suites miss."""

import unittest

from missesnone.comparing import first_difference
from missesnone.errors import TooLarge
from missesnone.faults import faults, faulty
from missesnone.orders import all_inputs
from missesnone.programs import Program, run
from missesnone.suites import catches, missed, suite, verdicts
from models import few_faults, long_way, plain_compare, some_programs
from samples import as_lists, as_tuples, call, example, shown

HUGE = 10 ** 5000
PORTS = [("out", ("low", "high"))]
DOWN, UP = [("put", 1), ("put", 0)], [("put", 0), ("put", 1)]


class Catches(unittest.TestCase):
    def test_the_example_of_the_document(self):
        program = example()
        first, second = faults(program, ["label"])
        for fault, events, expected in [
            (first, DOWN, True), (first, UP, False), (second, UP, True), (second, DOWN, False),
            (first, [("put", 0), ("put", 0)], False), (first, [("put", 9)], False),
            (first, [("put", 9), ("put", HUGE), ("put", -HUGE)], True),
        ]:
            self.assertIs(call(self, catches, program, fault, events), expected)
            self.assertIs(call(self, catches, program, as_lists(fault), as_lists(events)), expected)
            self.assertIs(call(self, catches, program, as_tuples(fault), as_tuples(events)), expected)

    def test_the_empty_input_catches_nothing(self):
        for program in some_programs():
            for fault in few_faults(program):
                self.assertIs(catches(program, fault, []), False)

    def test_each_event_counts(self):
        program = example()
        fault = faults(program, ["label"])[0]
        for at in range(4):
            events = [("put", number) for number in range(4)]
            events.insert(at + 1, ("put", -1))
            self.assertIs(catches(program, fault, events), True)

    def test_two_slips(self):
        program = example()
        fault = faults(program, ["label"], two=True)[2]
        self.assertIs(call(self, catches, program, fault, UP), True)
        self.assertIs(call(self, catches, program, fault, DOWN), True)
        self.assertIs(call(self, catches, program, fault, [("put", 3)]), False)

    def test_plainly(self):
        for program in some_programs():
            for fault in few_faults(program)[::5]:
                for events in all_inputs(program.names, 2):
                    expected = run(program, events)[1] != run(faulty(program, fault), events)[1]
                    self.assertIs(catches(program, fault, events), expected)


class Verdicts(unittest.TestCase):
    def test_the_example_of_the_document(self):
        program = example()
        some = faults(program, ["label"])
        self.assertEqual(shown(call(self, verdicts, program, some)), shown([DOWN, UP]))
        self.assertEqual(shown(call(self, verdicts, program, as_lists(some))), shown([DOWN, UP]))
        self.assertEqual(shown(call(self, verdicts, program, as_tuples(some))), shown([DOWN, UP]))

    def test_harmless_faults(self):
        program = Program(("put",), PORTS, [("a", 0), ("b", 0), ("c", 1)], [((0, 0, 0), (0, (), ((0, "low", 0),)))])
        some = [
            (((1, 0, 0), (1, (), ((0, "low", 0),))),), (((0, 0, 0), (1, (), ((0, "low", 0),))),),
            (((1, 0, 0), (1, (), ((0, "low", 0),))), ((0, 0, 0), (1, (), ((0, "low", 0),)))),
        ]
        self.assertEqual(call(self, verdicts, program, some), [None, [("put", 0), ("put", 1)], None])

    def test_no_faults(self):
        for function in (verdicts, suite):
            self.assertEqual(call(self, function, example(), []), [])
            self.assertEqual(call(self, function, example(), ()), [])

    def test_in_the_order_of_the_faults(self):
        program = example()
        some = faults(program, ["label", "drop"])
        self.assertEqual(verdicts(program, some[::-1]), verdicts(program, some)[::-1])
        self.assertEqual(verdicts(program, [some[0], some[0]]), [DOWN, DOWN])

    def test_first_differences_plainly(self):
        told = {True: 0, False: 0}
        for program in some_programs():
            some = few_faults(program)
            for fault, verdict in zip(some, call(self, verdicts, program, some)):
                told[verdict is None] += 1
                self.assertEqual(shown(verdict), shown(first_difference(program, faulty(program, fault))))
                self.assertEqual(shown(verdict), shown(plain_compare(program, faulty(program, fault))[0]))
                if verdict is None:
                    for events in all_inputs(program.names, 3):
                        self.assertIs(catches(program, fault, events), False)
                else:
                    self.assertIs(catches(program, fault, verdict), True)
                    self.assertIs(catches(program, fault, verdict[:-1]), False)
        self.assertTrue(min(told.values()) > 30, told)

    def test_returned_lists_are_new(self):
        program = example()
        some = faults(program, ["label"])
        result = verdicts(program, [*some, *some])
        for verdict in result[:2]:
            verdict.clear()
        self.assertEqual(result, [[], [], DOWN, UP])
        self.assertEqual(verdicts(program, some), [DOWN, UP])


class Suites(unittest.TestCase):
    def test_the_example_of_the_document(self):
        program = example()
        some = faults(program, ["label"])
        self.assertEqual(shown(call(self, suite, program, some)), shown([DOWN, UP]))
        self.assertEqual(shown(call(self, suite, program, as_lists(some))), shown([DOWN, UP]))

    def test_each_once_in_the_order_in_which_they_come_first(self):
        program = example()
        some = faults(program, ["drop", "label", "repeat"])
        self.assertEqual(verdicts(program, some), [DOWN, DOWN, DOWN, UP, UP, UP])
        self.assertEqual(call(self, suite, program, some), [DOWN, UP])
        self.assertEqual(suite(program, some[::-1]), [UP, DOWN])
        self.assertEqual(suite(program, [some[4], some[1], some[3], some[0]]), [UP, DOWN])

    def test_harmless_faults_need_no_test(self):
        program = Program(("put",), PORTS, [("a", 0), ("b", 0)], [])
        some = [(((1, 0, 0), (1, (), ((0, "low", 0),))),), (((0, 0, 0), (1, (), ())),)]
        self.assertEqual(verdicts(program, some), [None, None])
        self.assertEqual(call(self, suite, program, some), [])

    def test_it_catches_every_fault_that_is_not_harmless(self):
        for program in some_programs():
            some = few_faults(program)
            told = verdicts(program, some)
            tests = suite(program, some)
            expected = []
            for verdict in told:
                if verdict is not None and verdict not in expected:
                    expected.append(verdict)
            self.assertEqual(shown(tests), shown(expected))
            self.assertEqual(missed(program, some, tests), [])
            for fault, verdict in zip(some, told):
                self.assertEqual(any(catches(program, fault, events) for events in tests), verdict is not None)


class Missed(unittest.TestCase):
    def test_the_example_of_the_document(self):
        program = example()
        some = faults(program, ["label"])
        for tests, expected in [
            ([], [0, 1]), ([[]], [0, 1]), ([DOWN], [1]), ([UP], [0]), ([DOWN, UP], []), ([UP, DOWN], []),
            ([[], UP, UP], [0]), ([[("put", 0), ("put", 0)]], [0, 1]),
            ([[("put", 4), ("put", -HUGE), ("put", HUGE)]], []), ([[("put", 4)], [("put", 9), ("put", 5)]], [1]),
        ]:
            self.assertEqual(shown(call(self, missed, program, some, tests)), shown(expected))
            self.assertEqual(shown(call(self, missed, program, as_lists(some), as_lists(tests))), shown(expected))
            self.assertEqual(shown(call(self, missed, program, as_tuples(some), as_tuples(tests))), shown(expected))

    def test_no_faults(self):
        self.assertEqual(call(self, missed, example(), [], []), [])
        self.assertEqual(call(self, missed, example(), [], [DOWN]), [])

    def test_harmless_faults_are_not_missed(self):
        program = Program(("put",), PORTS, [("a", 0), ("b", 0)], [])
        some = [(((1, 0, 0), (1, (), ((0, "low", 0),))),), (((0, 0, 0), (0, (), ((0, "low", 0),))),)]
        self.assertEqual(call(self, missed, program, some, []), [1])

    def test_plainly(self):
        for program in some_programs():
            some = few_faults(program)
            told = verdicts(program, some)
            inputs = all_inputs(program.names, 3)
            for tests in ([], inputs[:2], inputs[5:9], inputs[40:43], suite(program, some)[:3]):
                expected = [
                    number for number, verdict in enumerate(told)
                    if verdict is not None and not any(catches(program, some[number], events) for events in tests)
                ]
                self.assertEqual(call(self, missed, program, some, tests), expected)


class TooLargeComparisons(unittest.TestCase):
    def test_within_the_limit(self):
        program, early, late, _ = long_way()
        self.assertEqual(verdicts(program, [early, late]), [[("put", 0)], [("put", at) for at in range(300)]])
        self.assertEqual(missed(program, [early, late], [[("put", 0)]]), [1])

    def test_one_comparison_is_enough(self):
        program, early, late, beyond = long_way()
        longest = [("put", at) for at in range(301)]
        self.assertIs(catches(program, beyond, longest), True)
        for some in ([beyond], [early, beyond], [beyond, early], [early, late, beyond]):
            with self.assertRaises(TooLarge):
                call(self, verdicts, program, some)
            with self.assertRaises(TooLarge):
                call(self, suite, program, some)
            for tests in ([], [longest], [[("put", 0)], longest]):
                with self.assertRaises(TooLarge):
                    call(self, missed, program, some, tests)


if __name__ == "__main__":
    unittest.main()
