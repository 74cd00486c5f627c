"""Points 1, 2 and 35: claims about inputs."""

import random
import unittest
from unittest import mock

from missesnone.claims import claim, first_wrong
from missesnone.programs import run
from models import random_program, some_programs
from samples import as_lists, as_tuples, call, example, ledger, mixed, parts_replaced, shown

HUGE = 10 ** 5000
EVENTS = [("put", 5), ("put", 2), ("put", 9)]
RIGHT = [("b", (5,), ()), ("b", (2,), (("out", "low", 2),)), ("b", (9,), (("out", "high", 9),))]


def plain_claim(program, events):
    found = []
    for many in range(1, len(events) + 1):
        (mode, held), outputs, _ = run(program, events[:many])
        found.append((program.modes[mode][0], held, outputs[-1]))
    return found


def plain_first_wrong(program, events, value):
    """Point 35, over texts that tell True from 1."""
    if not isinstance(value, (list, tuple)):
        return 0
    right = [shown(each) for each in plain_claim(program, events)]
    told = [shown(as_tuples(each)) for each in value]
    for at in range(min(len(right), len(told))):
        if right[at] != told[at]:
            return at
    return None if len(right) == len(told) else min(len(right), len(told))


class Right(unittest.TestCase):
    def require(self, program, events, expected):
        for form in (list, as_lists, as_tuples):
            self.assertEqual(shown(call(self, claim, program, form(events))), shown(expected))
            self.assertIsNone(call(self, first_wrong, program, form(events), form(expected)))

    def test_the_example_of_the_document(self):
        self.require(example(), EVENTS, RIGHT)
        self.require(example(), EVENTS[:1], RIGHT[:1])
        self.require(example(), [("put", HUGE), ("put", -HUGE)], [
            ("b", (HUGE,), ()), ("b", (-HUGE,), (("out", "low", -HUGE),))])

    def test_the_empty_input(self):
        self.require(example(), [], [])

    def test_held_integers_are_ascending(self):
        events = [("put", 7), ("put", 3), ("put", 5), ("put", 9), ("take", 9)]
        self.require(ledger(), events, [
            ("b1", (7,), ()), ("c", (3, 7), (("out", "low", 3), ("log", "low", 7))),
            ("d", (3, 5, 7), (("out", "put", 5),)),
            ("d", (5, 7, 9), (("out", "low", 3), ("out", "high", 9), ("log", "seen", 7), ("out", "put", 5))),
            ("c", (5, 7), (("log", "low", 9),)),
        ])

    def test_plainly(self):
        chance = random.Random(3)
        for program in [*some_programs(), *[random_program(seed, (0, 1, 2, 3)) for seed in range(20)]]:
            for many in range(7):
                events = [(chance.choice(program.names), chance.randrange(-5, 6)) for _ in range(many)]
                self.require(program, events, plain_claim(program, events))

    def test_returned_lists_are_new(self):
        claim(example(), EVENTS).clear()
        self.assertEqual(claim(example(), EVENTS), RIGHT)


class Wrong(unittest.TestCase):
    def require(self, events, value, expected):
        with self.subTest(shown(value)[:200]):
            self.assertEqual(shown(call(self, first_wrong, example(), events, value)), shown(expected))

    def test_the_first_wrong_step(self):
        wrong = ("b", (5,), (("out", "low", 5),))
        for at in range(3):
            value = [*RIGHT[:at], wrong, *RIGHT[at + 1:]]
            self.require(EVENTS, value, at)
            self.require(EVENTS, [*RIGHT[:at], wrong, *[wrong] * (2 - at)], at)
            self.require(EVENTS, [*RIGHT[:at], wrong], at)
            self.require(EVENTS, [*value, wrong], at)

    def test_each_part_of_a_step_counts(self):
        for step in [
            ("a", (2,), (("out", "low", 2),)), ("b", (), (("out", "low", 2),)), ("b", (5,), (("out", "low", 2),)),
            ("b", (2, 5), (("out", "low", 2),)), ("b", (2,), ()), ("b", (2,), (("out", "low", 5),)),
            ("b", (2,), (("out", "high", 2),)), ("b", (2,), (("log", "low", 2),)),
            ("b", (2,), (("out", "low", 2),) * 2),
            ("b", (2,), ("out", "low", 2)), ("b", (2,), (("out", "low", 2), ())), ("b", (2,), (("out", "low"),)),
            ("b", (2,), (("out", "low", 2, 2),)), ("b", (2,)), ("b", (2,), (("out", "low", 2),), ()), ("b",), (),
            (1, (2,), (("out", "low", 2),)), ("b", 2, (("out", "low", 2),)), ("B", (2,), (("out", "low", 2),)),
            ((2,), "b", (("out", "low", 2),)),
        ]:
            self.require(EVENTS, [RIGHT[0], step, RIGHT[2]], 1)
            self.require(EVENTS, [RIGHT[0], as_lists(step), RIGHT[2]], 1)

    def test_too_short_and_too_long(self):
        for many in range(3):
            self.require(EVENTS, RIGHT[:many], many)
            self.require(EVENTS, tuple(RIGHT[:many]), many)
            self.require(EVENTS[:many], RIGHT, many)
        self.require([], [], None)
        self.require([], (), None)
        for more in (RIGHT[0], RIGHT[2], None, 0, [], ()):
            self.require(EVENTS, [*RIGHT, more], 3)
            self.require(EVENTS, [*RIGHT, more, more], 3)
            self.require([], [more], 0)

    def test_neither_a_list_nor_a_tuple(self):
        for value in (None, True, False, 0, 3, "", "abc", "b", b"", {}, {0: RIGHT[0]}, set(), 0.0, object(), iter([]),
                      range(0), range(3)):
            for events in ([], EVENTS[:1], EVENTS):
                self.assertEqual(shown(first_wrong(example(), events, value)), "0x0")

    def test_true_in_the_place_of_1(self):
        events = [("put", 1), ("put", 0), ("put", 1)]
        right = [("b", (1,), ()), ("b", (0,), (("out", "low", 0),)), ("b", (1,), (("out", "high", 1),))]
        self.require(events, right, None)
        self.require(events, [("b", (True,), ()), *right[1:]], 0)
        self.require(events, [right[0], ("b", (False,), (("out", "low", 0),)), right[2]], 1)
        self.require(events, [right[0], ("b", (0,), (("out", "low", False),)), right[2]], 1)
        self.require(events, [*right[:2], ("b", (True,), (("out", "high", 1),))], 2)
        self.require(events, [*right[:2], ("b", (1,), (("out", "high", True),))], 2)
        self.require(events, [*right[:2], ["b", [1], [["out", "high", 1.0]]]], 2)
        self.require(events, [("b", (1.0,), ()), *right[1:]], 0)

    def test_lists_are_read_as_tuples(self):
        chance = random.Random(5)
        for _ in range(40):
            self.require(EVENTS, mixed(RIGHT, chance), None)
            self.require(mixed(EVENTS, chance), mixed(RIGHT[:2], chance), 2)

    def test_values_of_another_kind_anywhere(self):
        for fresh in (None, True, False, 0, 1.0, 2.0, -1, HUGE, "", "a", "b", "out", b"b", b"low", {}, {"b": 1}, set(),
                      mock.ANY, len, [], (), [None], ["b"], {0, 1}, range(2), 2j):
            for form in (list, as_lists, as_tuples):
                for value in parts_replaced(form(RIGHT), fresh):
                    self.require(EVENTS, value, plain_first_wrong(example(), EVENTS, value))

    def test_deep_values(self):
        deep = []
        for _ in range(100000):
            deep = [deep]
        round_about = []
        round_about.append(round_about)
        for value in (deep, round_about):
            self.assertEqual(first_wrong(example(), EVENTS, value), 0)
            for part in (value, ("b", value, ()), ("b", (5,), value), (value, (5,), ()), ("b", (value,), ())):
                self.assertEqual(first_wrong(example(), EVENTS, [part]), 0)
                self.assertEqual(first_wrong(example(), EVENTS, [*RIGHT[:1], part]), 1)
            self.assertEqual(first_wrong(example(), EVENTS, [*RIGHT, value]), 3)

    def test_plainly(self):
        chance = random.Random(8)
        told = {}
        for program in [*some_programs(), *[random_program(seed, (0, 1, 2, 3), writes=0.6) for seed in range(30)]]:
            for many in range(6):
                events = [(chance.choice(program.names), chance.randrange(-3, 4)) for _ in range(many)]
                right = claim(program, events)
                other = claim(program, [(name, number + chance.randrange(2)) for name, number in events])
                value = mixed(chance.choice([right, other, other[:2], [*other, *right]]), chance)
                expected = plain_first_wrong(program, events, value)
                told[expected] = told.get(expected, 0) + 1
                self.assertEqual(shown(call(self, first_wrong, program, events, value)), shown(expected))
        self.assertTrue(min(told.get(each, 0) for each in (None, 0, 1, 2, 3)) > 5, told)


if __name__ == "__main__":
    unittest.main()
