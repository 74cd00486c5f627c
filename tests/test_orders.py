"""Points 1, 2, 12 and 13: ranks, alike inputs, and all inputs up to a length."""

import itertools
import unittest

from missesnone.errors import MissError, TooLarge
from missesnone.orders import alike, all_inputs, ranked, ranks
from missesnone.programs import run
from samples import as_lists, as_tuples, call, ledger, shown

HUGE = 10 ** 5000


class Ranks(unittest.TestCase):
    def test_ranks(self):
        for numbers, expected in [
            ([], []), ([7], [0]), ([7, 7], [0, 0]), ([5, 2, 9], [1, 0, 2]),
            ([3, 3, 1, 8, 1], [1, 1, 0, 2, 0]), ([-4, 0, -9], [1, 2, 0]),
            ([HUGE + 1, HUGE, -HUGE], [2, 1, 0]), ([2 ** 53 + 1, 2 ** 53], [1, 0]),
        ]:
            self.assertEqual(call(self, ranks, numbers), expected)
            self.assertEqual(call(self, ranks, tuple(numbers)), expected)

    def test_a_rank_counts_different_integers_that_are_less(self):
        for numbers in itertools.product(range(-1, 3), repeat=4):
            expected = [len({other for other in numbers if other < number}) for number in numbers]
            self.assertEqual(ranks(numbers), expected)

    def test_ranks_are_integers(self):
        self.assertEqual([type(rank) for rank in ranks([4, 9, 4])], [int, int, int])

    def test_ranked(self):
        self.assertEqual(call(self, ranked, []), [])
        self.assertEqual(
            call(self, ranked, [("put", 40), ("take", -2), ("put", 40)]), [("put", 1), ("take", 0), ("put", 1)])

    def test_ranked_returns_a_new_list_of_pairs(self):
        events = [("put", 0), ("put", 1)]
        result = ranked(events)
        self.assertEqual(result, events)
        self.assertIsNot(result, events)
        for passed in (as_lists(events), as_tuples(events)):
            self.assertEqual(shown(call(self, ranked, passed)), shown(events))


class Alike(unittest.TestCase):
    def test_alike(self):
        first = [("put", 4), ("take", 9), ("put", 4)]
        self.assertIs(call(self, alike, first, [("put", -1), ("take", HUGE), ("put", -1)]), True)
        self.assertIs(call(self, alike, [], []), True)
        self.assertIs(alike(first, first), True)

    def test_not_alike(self):
        first = [("put", 4), ("take", 9), ("put", 4)]
        for second in [
            [], first[:2], [*first, ("put", 4)],
            [("put", 4), ("put", 9), ("put", 4)], [("take", 4), ("put", 9), ("put", 4)],
            [("put", 4), ("take", 9), ("put", 5)], [("put", 4), ("take", 4), ("put", 4)],
            [("put", 9), ("take", 4), ("put", 9)],
        ]:
            self.assertIs(call(self, alike, first, second), False)
            self.assertIs(alike(second, first), False)

    def test_lists_in_the_place_of_tuples(self):
        first, second = [("put", 4), ("take", 9)], [("put", 0), ("take", 1)]
        self.assertIs(call(self, alike, as_lists(first), as_tuples(second)), True)
        self.assertIs(call(self, alike, as_tuples(first), as_lists(second)), True)

    def test_alike_inputs_run_alike(self):
        program = ledger()
        for numbers in itertools.product(range(3), repeat=4):
            for names in (("put", "put", "put", "take"), ("put", "put", "take", "put")):
                first = list(zip(names, numbers))
                second = [(name, 7 * number * number - HUGE) for name, number in first]
                self.assertIs(alike(first, second), True)
                place, outputs, touched = run(program, first)
                other_place, other_outputs, other_touched = run(program, second)
                self.assertEqual(touched, other_touched)
                self.assertEqual(
                    [[(port, label, 7 * n * n - HUGE) for port, label, n in output] for output in outputs],
                    [list(output) for output in other_outputs])
                self.assertEqual(other_place, (place[0], tuple(7 * n * n - HUGE for n in place[1])))


class AllInputs(unittest.TestCase):
    def test_length_0(self):
        self.assertEqual(call(self, all_inputs, ("put", "take"), 0), [])

    def test_length_1(self):
        self.assertEqual(call(self, all_inputs, ("b", "a"), 1), [[("b", 0)], [("a", 0)]])

    def test_length_2_with_one_name(self):
        self.assertEqual(all_inputs(("a",), 2), [
            [("a", 0)],
            [("a", 1), ("a", 0)], [("a", 0), ("a", 0)], [("a", 0), ("a", 1)],
        ])

    def test_results_contain_integers_and_no_booleans(self):
        self.assertEqual(shown(all_inputs(("a",), 2)[1:3]), shown([[("a", 1), ("a", 0)], [("a", 0), ("a", 0)]]))
        self.assertEqual(shown(ranked([("a", 9), ("a", 3)])), shown([("a", 1), ("a", 0)]))

    def test_length_2_with_two_names(self):
        self.assertEqual(all_inputs(("b", "a"), 2)[2:], [
            [("b", 1), ("b", 0)], [("b", 0), ("b", 0)], [("b", 0), ("b", 1)],
            [("b", 1), ("a", 0)], [("b", 0), ("a", 0)], [("b", 0), ("a", 1)],
            [("a", 1), ("b", 0)], [("a", 0), ("b", 0)], [("a", 0), ("b", 1)],
            [("a", 1), ("a", 0)], [("a", 0), ("a", 0)], [("a", 0), ("a", 1)],
        ])

    def test_length_3_goes_on_position_by_position(self):
        numbers = [[number for _, number in events] for events in all_inputs(("a",), 3)[4:]]
        self.assertEqual(numbers, [
            [2, 1, 0], [1, 0, 0], [2, 0, 1], [1, 0, 1], [1, 0, 2],
            [1, 1, 0], [0, 0, 0], [0, 0, 1],
            [1, 2, 0], [0, 1, 0], [0, 2, 1], [0, 1, 1], [0, 1, 2],
        ])

    def test_how_many(self):
        for count, length, many in [(1, 4, 92), (2, 3, 118), (3, 2, 30), (4, 2, 52), (1, 3, 17)]:
            names = ("a", "b", "c", "d")[:count]
            self.assertEqual(len(call(self, all_inputs, names, length)), many)

    def test_each_input_is_alike_to_exactly_one(self):
        for names, length in [(("a",), 4), (("b", "a"), 3), (("d", "c", "b", "a"), 2)]:
            found = [tuple(events) for events in all_inputs(names, length)]
            self.assertEqual(len(found), len(set(found)))
            expected = set()
            for many in range(1, length + 1):
                for heard in itertools.product(names, repeat=many):
                    for numbers in itertools.product(range(many), repeat=many):
                        expected.add(tuple(ranked(list(zip(heard, numbers)))))
            self.assertEqual(set(found), expected)

    def test_shorter_ones_come_first(self):
        lengths = [len(events) for events in all_inputs(("b", "a"), 3)]
        self.assertEqual(lengths, sorted(lengths))
        self.assertEqual(all_inputs(("b", "a"), 3)[:14], all_inputs(("b", "a"), 2))

    def test_lists_of_names(self):
        self.assertEqual(shown(call(self, all_inputs, ["b", "a"], 2)), shown(all_inputs(("b", "a"), 2)))

    def test_just_within_300(self):
        names = [f"n{at}" for at in range(300)]
        self.assertEqual(len(call(self, all_inputs, names, 1)), 300)
        self.assertEqual(len(all_inputs(names[:9], 2)), 252)

    def test_just_beyond_300(self):
        names = [f"n{at}" for at in range(301)]
        for some, length in [(names, 1), (names[:10], 2), (names[:3], 3), (names[:2], 4), (names[:1], 5),
                             (names[:300], 2), (names[:4], 4)]:
            with self.assertRaises(TooLarge):
                call(self, all_inputs, some, length)
        with self.assertRaises(MissError):
            all_inputs(("a", "b", "c"), 4)

    def test_what_is_returned_is_new(self):
        first = all_inputs(("a",), 2)
        for events in first:
            events.append(("a", 9))
        self.assertEqual(all_inputs(("a",), 1), [[("a", 0)]])
        self.assertEqual([len(events) for events in first], [2, 3, 3, 3])


if __name__ == "__main__":
    unittest.main()
