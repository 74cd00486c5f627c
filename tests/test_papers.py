"""Points 1, 2, 22 and 23: papers, and checking them."""

import random
import unittest

from missesnone.comparing import first_difference, pairing
from missesnone.errors import SuiteMisses, TooLarge
from missesnone.faults import faults, faulty
from missesnone.orders import all_inputs
from missesnone.papers import accepts, paper
from missesnone.programs import Program, run
from missesnone.suites import suite
from models import (
    all_joint_places, few_faults, long_way, plain_compare, plain_is_pairing, plain_pair, some_programs,
)
from samples import as_lists, as_tuples, call, example, mixed, parts_replaced, shown

HUGE = 10 ** 5000
START_PAIR = ((0, ()), (0, ()))
PORTS = [("out", ("low", "high"))]
LOW = ((0, "low", 0),)
DOWN, UP = [("put", 1), ("put", 0)], [("put", 0), ("put", 1)]


def silent():
    """A program that writes nothing, and faults of which all but the second and the fifth are harmless."""
    program = Program(("put",), PORTS, [("a", 0), ("b", 0), ("c", 1)], [])
    return program, [
        (((1, 0, 0), (1, (), LOW)),), (((0, 0, 0), (0, (), LOW)),), (((0, 0, 0), (1, (), ())),),
        (((1, 0, 0), (1, (), LOW)), ((2, 0, 1), (2, (0,), LOW))), (((0, 0, 0), (1, (), ())), ((1, 0, 0), (1, (), LOW))),
    ]


def differ(program, fault, events):
    return run(program, events)[1] != run(faulty(program, fault), events)[1]


def plain_paper(program, some, tests):
    """Point 23, from the kept inputs of a plain comparison; the number of the first fault missed if there is one."""
    entries = []
    for number, fault in enumerate(some):
        difference, kept = plain_compare(program, faulty(program, fault))
        if difference is None:
            entries.append(("same", [plain_pair(program, faulty(program, fault), events) for events in kept]))
            continue
        caught = [at for at, events in enumerate(tests) if differ(program, fault, events)]
        if not caught:
            return number
        entries.append(("test", caught[0]))
    return entries


def plain_accepts(program, some, tests, value):
    """Point 22, told by texts that tell True from 1."""
    if not isinstance(value, (list, tuple)) or len(value) != len(some):
        return False
    for fault, entry in zip(some, value):
        if not isinstance(entry, (list, tuple)) or len(entry) != 2:
            return False
        if entry[0] == "same":
            if not plain_is_pairing(program, faulty(program, fault), entry[1]):
                return False
        elif entry[0] == "test":
            numbers = [at for at, events in enumerate(tests) if differ(program, fault, events)]
            if shown(entry[1]) not in [shown(at) for at in numbers]:
                return False
        else:
            return False
    return True


class Papers(unittest.TestCase):
    def require(self, program, some, tests, expected):
        for form in (list, as_lists, as_tuples):
            result = call(self, paper, program, form(some), form(tests))
            self.assertEqual(shown(result), shown(expected))
        self.assertIs(call(self, accepts, program, some, tests, expected), True)

    def require_missed(self, program, some, tests, number):
        with self.assertRaises(SuiteMisses) as caught:
            call(self, paper, program, some, tests)
        self.assertEqual(shown(caught.exception.number), shown(number))

    def test_the_example_of_the_document(self):
        program = example()
        some = faults(program, ["label"])
        self.require(program, some, suite(program, some), [("test", 0), ("test", 1)])

    def test_the_first_test_that_catches(self):
        program = example()
        some = faults(program, ["label"])
        both = [("put", 5), ("put", -HUGE), ("put", HUGE)]
        for tests, numbers in [
            ([DOWN, UP], (0, 1)), ([UP, DOWN], (1, 0)), ([[], UP, UP, DOWN, DOWN], (3, 1)), ([both], (0, 0)),
            ([UP, both, DOWN], (1, 0)), ([[("put", 0), ("put", 0)], DOWN, both], (1, 2)),
        ]:
            self.require(program, some, tests, [("test", number) for number in numbers])

    def test_no_faults(self):
        for tests in ([], [DOWN], [[]], [DOWN, UP]):
            self.require(example(), [], tests, [])

    def test_harmless_faults_have_their_pairings(self):
        program, some = silent()
        low, two = [("put", 0)], [("put", 0), ("put", 0)]
        self.require(program, some, [low, two], [
            ("same", [START_PAIR]), ("test", 0), ("same", [START_PAIR, ((0, ()), (1, ()))]), ("same", [START_PAIR]),
            ("test", 1),
        ])
        harmless = [some[0], some[2], some[3]]
        self.require(program, harmless, [], [
            ("same", [START_PAIR]), ("same", [START_PAIR, ((0, ()), (1, ()))]), ("same", [START_PAIR])])

    def test_the_first_fault_that_is_missed(self):
        program = example()
        some = faults(program, ["label"])
        for tests, number in [
            ([], 0), ([[]], 0), ([UP], 0), ([DOWN], 1), ([DOWN, [("put", 3), ("put", 3)], DOWN], 1),
        ]:
            self.require_missed(program, some, tests, number)
        self.require_missed(program, some[::-1], [DOWN], 0)
        program, some = silent()
        self.require_missed(program, some, [], 1)
        self.require_missed(program, some, [[("put", 0)]], 4)
        self.require_missed(program, [*some[:1], *some[2:]], [], 3)

    def test_too_large_comes_ahead_of_faults_that_are_missed(self):
        program, early, late, beyond = long_way()
        tests = [[("put", 0)], [("put", at) for at in range(300)]]
        self.assertEqual(paper(program, [early, late], tests), [("test", 0), ("test", 1)])
        self.require_missed(program, [early, late], tests[:1], 1)
        longest = [("put", at) for at in range(301)]
        for some in ([beyond], [early, beyond], [beyond, early], [early, late, beyond]):
            for tests in ([], [[("put", 0)]], [longest]):
                with self.assertRaises(TooLarge):
                    call(self, paper, program, some, tests)

    def test_papers_for_suites_plainly(self):
        words = {"same": 0, "test": 0}
        for program in some_programs():
            some = few_faults(program)
            tests = suite(program, some)
            made = call(self, paper, program, some, tests)
            self.assertEqual(shown(made), shown(plain_paper(program, some, tests)))
            self.assertIs(call(self, accepts, program, some, tests, made), True)
            for word, _ in made:
                words[word] += 1
        self.assertTrue(min(words.values()) > 30, words)

    def test_papers_for_other_tests_plainly(self):
        refused = 0
        for program in some_programs():
            some = few_faults(program)[::6]
            for tests in (
                [], all_inputs(program.names, 2), all_inputs(program.names, 3)[50:], suite(program, some)[::-1],
            ):
                expected = plain_paper(program, some, tests)
                if isinstance(expected, list):
                    self.assertEqual(shown(paper(program, some, tests)), shown(expected))
                else:
                    refused += 1
                    self.require_missed(program, some, tests, expected)
        self.assertTrue(10 < refused < 40, refused)

    def test_returned_lists_are_new(self):
        program, some = silent()
        result = paper(program, [some[0], some[0]], [])
        result[0][1].clear()
        self.assertEqual(result[1], ("same", [START_PAIR]))
        result.clear()
        self.assertEqual(paper(program, [some[0]], []), [("same", [START_PAIR])])


class Checking(unittest.TestCase):
    def require(self, program, some, tests, value, expected):
        with self.subTest(shown(value)[:200]):
            self.assertIs(call(self, accepts, program, some, tests, value), expected)

    def test_lists_and_tuples(self):
        chance = random.Random(3)
        for program in some_programs():
            some = few_faults(program)[::3]
            tests = suite(program, some)
            value = paper(program, some, tests)
            for form in (as_lists, as_tuples, lambda each: mixed(each, chance)):
                self.require(program, some, tests, form(value), True)
                self.require(program, form(some), form(tests), value, True)

    def test_no_faults(self):
        for tests in ([], [DOWN]):
            for value in ([], ()):
                self.require(example(), [], tests, value, True)
            for value in (None, True, False, 0, "", "same", [[]], [("test", 0)], [("same", [START_PAIR])], [None]):
                self.require(example(), [], tests, value, False)

    def test_one_entry_for_each_fault(self):
        program = example()
        some = faults(program, ["label"])
        one, two = ("test", 0), ("test", 1)
        self.require(program, some, [DOWN, UP], [one, two], True)
        for value in ([], [one], [two], [two, one], [one, one], [one, two, two], [one, two, []], [[one, two]],
                      [one, [two]], (one, two, None)):
            self.require(program, some, [DOWN, UP], value, False)

    def test_any_test_that_catches(self):
        program = example()
        some = faults(program, ["label"])
        tests = [UP, [], DOWN, [("put", 5), ("put", 9), ("put", 3)], [("put", 0)], UP]
        for first in range(-7, 8):
            for second in range(-7, 8):
                expected = first in (2, 3) and second in (0, 3, 5)
                self.require(program, some, tests, [("test", first), ("test", second)], expected)

    def test_an_empty_suite(self):
        program, some = silent()
        for number in (0, -1, 1):
            self.require(program, some[:1], [], [("test", number)], False)
        self.require(program, some[:1], [], [("same", [START_PAIR])], True)

    def test_harmless_faults_are_caught_by_no_test(self):
        program, some = silent()
        tests = [[("put", 0)], [("put", 0), ("put", 0)], []]
        self.require(program, some[1:2], tests, [("test", 0)], True)
        for fault in (some[0], some[2], some[3]):
            for number in range(3):
                self.require(program, [fault], tests, [("test", number)], False)

    def test_faults_that_are_not_harmless_are_shown_harmless_by_no_list(self):
        program = example()
        some = faults(program, ["label", "drop", "repeat"])
        for fault in some:
            other = faulty(program, fault)
            self.assertIsNotNone(first_difference(program, other))
            for value in ([], [START_PAIR], all_joint_places(program, other), pairing(program, program)):
                self.require(program, [fault], [DOWN], [("same", value)], False)

    def test_other_lists_of_joint_places_hold_as_well(self):
        program, some = silent()
        fault = some[0]
        self.require(program, [fault], [], [("same", [START_PAIR])], True)
        self.require(program, [fault], [], [("same", [START_PAIR, START_PAIR])], True)
        self.require(program, [fault], [], [("same", [START_PAIR, ((0, ()), (2, (0,)))])], True)
        self.require(program, [fault], [], [("same", [START_PAIR, ((2, (1,)), (2, (0,)))])], True)
        self.require(program, [fault], [], [("same", [((0, ()), (2, (0,))), START_PAIR])], False)
        self.require(program, [fault], [], [("same", [START_PAIR, ((0, ()), (1, ()))])], False)
        self.require(program, [fault], [], [("same", [START_PAIR, ((0, ()), (2, (1,)))])], False)

    def test_also_where_comparing_would_be_too_large(self):
        program, early, late, beyond = long_way()
        longest = [("put", at) for at in range(301)]
        self.require(program, [early, late, beyond], [longest], [("test", 0)] * 3, True)
        self.require(program, [beyond], [longest[1:]], [("test", 0)], False)
        quiet = (((300, 0, 0), (0, (), ())),)
        pairs = [((at, ()), (at, ())) for at in range(301)]
        more = [((at, ()), (at % 301, ())) for at in range(301)]
        self.require(program, [quiet], [], [("same", pairs[:300])], False)
        self.require(program, [(((300, 0, 0), (300, (), ())),)], [], [("same", more)], True)

    def test_true_and_false_are_no_integers(self):
        program = example()
        some = faults(program, ["label"])
        self.require(program, some, [DOWN, UP], [("test", False), ("test", 1)], False)
        self.require(program, some, [DOWN, UP], [("test", 0), ("test", True)], False)
        program, some = silent()
        self.require(program, some[2:3], [], [("same", [START_PAIR, ((0, ()), (1, ()))])], True)
        for pairs in [
            [((False, ()), (0, ())), ((0, ()), (1, ()))], [START_PAIR, ((0, ()), (True, ()))],
            [((0, ()), (False, ())), ((0, ()), (1, ()))], [START_PAIR, ((False, ()), (1, ()))],
        ]:
            self.require(program, some[2:3], [], [("same", pairs)], False)
        self.require(program, some[:1], [], [("same", [START_PAIR, ((0, ()), (2, (False,)))])], False)

    def test_other_values(self):
        program = example()
        some = faults(program, ["label"])
        for value in (None, True, False, 0, 1, 2, -1, HUGE, "", "same", "test", "st", ["ab", "cd"], [None, None],
                      [[], []], ["test", 0], ("test", 1), [("test",), ("test",)], [("test", 0, 0), ("test", 1, 1)],
                      [("Test", 0), ("test", 1)], [("test", "0"), ("test", "1")], [("test", [0]), ("test", [1])],
                      [("test", None), ("test", None)], [(0, "test"), (1, "test")], [("", 0), ("", 1)],
                      [(None, 0), (True, 1)], [(["test"], 0), (("test",), 1)], [("test ", 0), ("test", 1)],
                      [("same", None), ("same", None)], [("same", 0), ("same", True)], [("same", "00"), ("same", "")],
                      [("test", HUGE), ("test", -HUGE)]):
            self.require(program, some, [DOWN, UP], value, False)
        program, some = silent()
        for value in ([("same", [])], [("same", None)], [("same", 0)], [("same", START_PAIR)], [("same",)], ["same"],
                      [("same", [[START_PAIR]])], [("same", "")], [[[START_PAIR]]], ("same", [START_PAIR]),
                      [("sam", [START_PAIR])], [("same", [START_PAIR], [])], [("test", [START_PAIR])]):
            self.require(program, some[:1], [], value, False)

    def test_each_part_replaced(self):
        program, some = silent()
        tests = [[("put", 0)], [("put", 0), ("put", 0)]]
        value = paper(program, some, tests)
        for fresh in (None, True, False, -1, 2, 0, 1, HUGE, "", "same", "test", [], (), [0], [[]], [None], (1, ()),
                      ("test", 0), ("test", 1), ("same", [START_PAIR]), [START_PAIR], START_PAIR):
            for other in parts_replaced(value, fresh):
                self.require(program, some, tests, other, plain_accepts(program, some, tests, other))

    def test_deep_values(self):
        deep = []
        for _ in range(100000):
            deep = [deep]
        program, some = silent()
        for value in (deep, [deep], [("test", deep)], [("same", deep)], [("same", [START_PAIR, deep])], [(deep, 0)]):
            self.assertIs(accepts(program, some[:1], [[("put", 0)]], value), False)

    def test_changed_papers_plainly(self):
        chance = random.Random(11)
        told = []
        for program in some_programs():
            some = few_faults(program)[::7]
            tests = suite(program, some)
            made = paper(program, some, tests)
            for _ in range(25):
                value = list(made)
                at = chance.randrange(len(value))
                value[at] = chance.choice([
                    ("test", chance.randrange(len(tests) + 1)), chance.choice(made),
                    ("same", pairing(program, program)), ("same", chance.sample(made, 1)[0][1]),
                ])
                expected = plain_accepts(program, some, tests, value)
                told.append(expected)
                self.require(program, some, tests, mixed(value, chance), expected)
        self.assertTrue(20 < sum(told) < len(told) - 20, (sum(told), len(told)))

    def test_whoever_passes_a_suite_with_a_paper_writes_the_same(self):
        for program in some_programs():
            some = few_faults(program)[::4]
            tests = suite(program, some)
            self.require(program, some, tests, paper(program, some, tests), True)
            for fault in some:
                if not any(differ(program, fault, events) for events in tests):
                    for events in all_inputs(program.names, 3):
                        self.assertFalse(differ(program, fault, events))


if __name__ == "__main__":
    unittest.main()
