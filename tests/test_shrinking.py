"""Points 1, 2, 33 and 34: shrunk inputs, and endings."""

import itertools
import math
import random
import unittest

from missesnone.comparing import first_difference
from missesnone.errors import OtherFace, TooLong, WriteSame
from missesnone.faults import faulty
from missesnone.orders import all_inputs, ranked
from missesnone.programs import Program, run, with_rows
from missesnone.shrinking import endings, shrunk
from models import changed, few_faults, plain_ranked, random_program, some_programs
from samples import as_lists, as_tuples, call, example, ledger, other_faces, shown

HUGE = 10 ** 5000
PORTS = [("out", ("low", "high"))]
LOW = ((0, "low", 0),)


def all_with(names):
    """All ranked inputs with just these names, in the order of point 13, told plainly."""
    if not names:
        return [[]]
    found = []
    for events in all_with(names[:-1]):
        doubled = [(name, 2 * number) for name, number in events]
        numbers = sorted({number for _, number in doubled})
        for position in range(2 * len(numbers) + 1):
            number = numbers[position // 2] if position % 2 == 1 else 2 * (position // 2) - 1
            found.append(plain_ranked([*doubled, (names[-1], number)]))
    return found


def plain_shrunk(first, second, events):
    """Point 33 word by word."""
    for many in range(1, len(events) + 1):
        for indexes in itertools.combinations(range(len(events)), many):
            for candidate in all_with([events[at][0] for at in indexes]):
                if run(first, candidate)[1] != run(second, candidate)[1]:
                    return candidate
    return None


def plain_endings(program, first, second):
    """Point 34 word by word."""
    found = []
    together = len(first) + len(second)
    for schedule in itertools.product((True, False), repeat=together):
        if sum(schedule) != len(first):
            continue
        parts = {True: iter(first), False: iter(second)}
        outputs = run(program, [next(parts[each]) for each in schedule])[1]
        writes = [write for output in outputs for write in output]
        ending = tuple(
            tuple((label, number) for port, label, number in writes if port == name) for name, _ in program.ports)
        for at, (other, earliest, many) in enumerate(found):
            if other == ending:
                found[at] = (other, earliest, many + 1)
                break
        else:
            found.append((ending, schedule, 1))
    return found


class Shrunk(unittest.TestCase):
    def require(self, first, second, events, expected):
        for form in (list, as_lists, as_tuples):
            self.assertEqual(shown(call(self, shrunk, first, second, form(events))), shown(expected))
        self.assertEqual(shown(shrunk(second, first, events)), shown(expected))

    def refuse(self, first, second, events, error):
        for one, other in ((first, second), (second, first)):
            with self.assertRaises(error):
                call(self, shrunk, one, other, events)

    def test_the_example_of_the_document(self):
        other = with_rows(example(), [((1, 0, 0), (1, (0,), ()))])
        for numbers in ([9, 5], [9, 5, 1], [0, 1, 2, 3, -HUGE], [4, 4, 4, 0, 4], [HUGE, 3]):
            self.require(example(), other, [("put", number) for number in numbers], [("put", 1), ("put", 0)])

    def test_one_event(self):
        for names in (("a", "b"), ("b", "a")):
            silent = Program(names, PORTS, [("m", 0)], [])
            loud = with_rows(silent, [((0, at, 0), (0, (), LOW)) for at in range(2)])
            for events in itertools.product("ab", repeat=3):
                self.require(silent, loud, [(name, 4) for name in events], [(events[0], 0)])
        loud = with_rows(silent, [((0, 0, 0), (0, (), LOW))])
        self.require(silent, loud, [("a", 3), ("a", 2), ("b", 1)], [("b", 0)])

    def test_names_are_taken_by_their_indexes(self):
        # Any two different names show the difference.
        modes = [("m", 0), ("a", 0), ("b", 0), ("c", 0)]
        rows = [((0, at, 0), (at + 1, (), ())) for at in range(3)]
        silent = Program(("a", "b", "c"), PORTS, modes, rows)
        loud = with_rows(silent, [
            ((mode + 1, at, 0), (mode + 1, (), LOW)) for mode in range(3) for at in range(3) if at != mode])
        for names, expected in [
            ("aab", "ab"), ("aba", "ab"), ("bac", "ba"), ("ccab", "ca"), ("cacb", "ca"), ("bbbbc", "bc"), ("abc", "ab"),
            ("acb", "ac"),
        ]:
            self.require(silent, loud, list(zip(names, range(5))), [(expected[0], 1), (expected[1], 0)])

    def test_any_integers_are_tried(self):
        for position, numbers, heard in [
            (0, (1, 0), (5, 5, 9, 0)), (1, (0, 0), (5, 0, 9, 9)), (2, (0, 1), (9, 5, 5, 7)), (2, (0, 1), (-HUGE, HUGE)),
        ]:
            other = with_rows(example(), [((1, 0, position), (1, (0,), LOW + LOW))])
            expected = [("put", number) for number in numbers]
            self.require(example(), other, [("put", number) for number in heard], expected)

    def test_the_order_of_the_inputs_with_the_same_names(self):
        for many in range(1, 5):
            expected = [events for events in all_inputs(("a",), many) if len(events) == many]
            self.assertEqual(all_with("a" * many), expected)
        self.assertEqual(len(all_with("ababa")), 541)
        # Of the inputs that show the difference, the first one has the last integer as the least.
        program = Program(("a",), PORTS, [("m", 0), ("n", 0), ("o", 0)], [
            ((0, 0, 0), (1, (), ())), ((1, 0, 0), (2, (), ()))])
        other = with_rows(program, [((2, 0, 0), (2, (), LOW))])
        self.require(program, other, [("a", 1), ("a", 2), ("a", 3)], [("a", 2), ("a", 1), ("a", 0)])

    def test_5_and_6_events(self):
        chain = Program(("a",), PORTS, [(f"m{at}", 0) for at in range(6)], [
            ((at, 0, 0), (at + 1, (), ())) for at in range(5)])
        for at in range(6):
            other = with_rows(chain, [((at, 0, 0), (min(at + 1, 5), (), LOW))])
            five, six = [("a", number) for number in (3, 1, 4, 1, 5)], [("a", number) for number in (3, 1, 4, 1, 5, 9)]
            if at < 5:
                self.require(chain, other, five, [("a", at - number) for number in range(at + 1)])
            else:
                self.refuse(chain, other, five, WriteSame)
            self.refuse(chain, other, six, TooLong)
        self.refuse(chain, chain, [("a", 0)] * 6, TooLong)
        self.refuse(chain, chain, [("a", 0)] * 5, WriteSame)

    def test_an_event_in_between_is_left_out(self):
        events = [("put", 40), ("put", 20), ("put", 50), ("put", 60), ("take", 60)]
        other = with_rows(ledger(), [((3, 1, 5), (2, (0, 1), ()))])
        self.require(ledger(), other, events, [("put", 2), ("put", 1), ("put", 0), ("take", 2)])

    def test_they_write_the_same(self):
        other = with_rows(example(), [((1, 0, 0), (1, (0,), ()))])
        for numbers in ([], [4], [4, 4], [1, 2, 3, 4, 5], [2, 2, 9, 10, 10]):
            self.refuse(example(), other, [("put", number) for number in numbers], WriteSame)
        self.refuse(example(), example(), [("put", 3), ("put", 2)], WriteSame)

    def test_also_if_a_part_of_the_input_would_show_a_difference(self):
        # After two events the programs write the same; with one of the two alone they do not.
        silent = Program(("a", "b"), PORTS, [("m", 0), ("n", 0)], [((0, 0, 0), (1, (), ()))])
        loud = with_rows(silent, [((0, 1, 0), (0, (), LOW))])
        self.refuse(silent, loud, [("a", 0), ("b", 0)], WriteSame)
        self.require(silent, loud, [("b", 0), ("a", 0)], [("b", 0)])

    def test_other_faces(self):
        for other in other_faces():
            for events in ([], [("put", 1)], [("put", 2), ("put", 1)], [("put", 1)] * 6):
                self.refuse(example(), other, events, OtherFace)

    def test_plainly(self):
        chance = random.Random(2)
        lengths = {}
        pairs = [(program, faulty(program, fault)) for program in some_programs() for fault in few_faults(program)[::4]]
        for seed in range(60):
            program = random_program(seed, (0, 1, 2, 1), writes=0.3)
            pairs.append((program, changed(program, seed, 2)))
        for first, second in pairs:
            many = chance.randrange(6)
            events = [(chance.choice(first.names), chance.randrange(-3, 4)) for _ in range(many)]
            difference = first_difference(first, second)
            if difference is not None and len(difference) < 5 and chance.random() < 0.7:
                events = [*difference, *events][:5]
            if run(first, events)[1] == run(second, events)[1]:
                self.refuse(first, second, events, WriteSame)
                continue
            result = call(self, shrunk, first, second, events)
            self.assertEqual(shown(result), shown(plain_shrunk(first, second, events)))
            self.assertEqual(ranked(result), result)
            lengths[len(result)] = lengths.get(len(result), 0) + 1
        self.assertTrue(min(lengths.get(many, 0) for many in (1, 2, 3)) > 2, lengths)

    def test_returned_lists_are_new(self):
        other = with_rows(example(), [((0, 0, 0), (0, (), LOW))])
        events = [("put", 0)]
        shrunk(example(), other, events).clear()
        self.assertEqual(shrunk(example(), other, events), [("put", 0)])
        self.assertEqual(events, [("put", 0)])


class Endings(unittest.TestCase):
    def require(self, program, first, second, expected):
        for form in (list, as_lists, as_tuples):
            result = call(self, endings, program, form(first), form(second))
            self.assertEqual(shown(result), shown(expected))

    def test_no_events(self):
        self.require(example(), [], [], [(((),), (), 1)])
        self.require(ledger(), [], [], [(((), ()), (), 1)])

    def test_one_of_the_inputs_is_empty(self):
        events = [("put", 5), ("put", 2), ("put", 9)]
        ending = ((("low", 2), ("high", 9)),)
        self.require(example(), events, [], [(ending, (True, True, True), 1)])
        self.require(example(), [], events, [(ending, (False, False, False), 1)])

    def test_the_example_of_the_document(self):
        self.require(example(), [("put", 5)], [("put", 2)], [
            (((("low", 2),),), (True, False), 1), (((("high", 5),),), (False, True), 1)])
        self.require(example(), [("put", 5), ("put", 5)], [("put", 5)], [(((),), (True, True, False), 3)])
        self.require(example(), [("put", 5)], [("put", 2), ("put", HUGE)], [
            (((("low", 2), ("high", HUGE)),), (True, False, False), 1),
            (((("high", 5), ("high", HUGE)),), (False, True, False), 1),
            (((("high", HUGE), ("low", 5)),), (False, False, True), 1),
        ])

    def test_each_port_shows_only_its_own_writes_in_order(self):
        program = Program(("a", "b"), [("x", ("l", "m")), ("y", ("l",)), ("z", ("n",))], [("m", 0)], [
            ((0, 0, 0), (0, (), ((1, "l", 0), (0, "m", 0), (0, "l", 0)))), ((0, 1, 0), (0, (), ((1, "l", 0),)))])
        self.require(program, [("a", 1)], [("b", 2), ("a", 3)], [
            (((("m", 1), ("l", 1), ("m", 3), ("l", 3)), (("l", 1), ("l", 2), ("l", 3)), ()), (True, False, False), 1),
            (((("m", 1), ("l", 1), ("m", 3), ("l", 3)), (("l", 2), ("l", 1), ("l", 3)), ()), (False, True, False), 1),
            (((("m", 3), ("l", 3), ("m", 1), ("l", 1)), (("l", 2), ("l", 3), ("l", 1)), ()), (False, False, True), 1),
        ])

    def test_schedules_with_the_same_ending_are_counted(self):
        silent = Program(("a",), PORTS, [("m", 0)], [])
        for many in range(9):
            for others in range(9 - many):
                schedule = (True,) * many + (False,) * others
                self.require(silent, [("a", 1)] * many, [("a", 2)] * others, [
                    (((),), schedule, math.comb(many + others, many))])

    def test_8_and_9_events_together(self):
        for first, second in [(8, 0), (0, 8), (4, 4), (7, 1), (1, 7)]:
            one, two = [("put", number) for number in range(first)], [("put", -number) for number in range(second)]
            self.require(example(), one, two, plain_endings(example(), one, two))
            for more, others in [([*one, ("put", 0)], two), (one, [*two, ("put", 0)])]:
                with self.assertRaises(TooLong):
                    call(self, endings, example(), more, others)
        with self.assertRaises(TooLong):
            endings(example(), [("put", 0)] * 20, [])

    def test_70_schedules(self):
        program = Program(("a",), PORTS, [("m", 0)], [((0, 0, 0), (0, (), LOW))])
        result = call(self, endings, program, [("a", at) for at in range(4)], [("a", at) for at in range(4, 8)])
        self.assertEqual(len(result), 70)
        self.assertEqual([many for _, _, many in result], [1] * 70)
        schedules = [schedule for _, schedule, _ in result]
        self.assertEqual(schedules, sorted(schedules, reverse=True))

    def test_plainly(self):
        chance = random.Random(6)
        merged = 0
        for program in [*some_programs(), *[random_program(seed, writes=0.6) for seed in range(20)]]:
            for _ in range(4):
                many = chance.randrange(7)
                first, second = [
                    [(chance.choice(program.names), chance.randrange(-2, 3)) for _ in range(length)]
                    for length in (many, chance.randrange(7 - many))
                ]
                result = call(self, endings, program, first, second)
                self.assertEqual(shown(result), shown(plain_endings(program, first, second)))
                self.assertEqual(sum(count for _, _, count in result), math.comb(len(first) + len(second), len(first)))
                merged += any(count > 1 for _, _, count in result) and len(result) > 1
        self.assertGreater(merged, 10)

    def test_returned_lists_are_new(self):
        result = endings(example(), [("put", 5)], [("put", 2)])
        result.clear()
        self.assertEqual(len(endings(example(), [("put", 5)], [("put", 2)])), 2)


if __name__ == "__main__":
    unittest.main()
