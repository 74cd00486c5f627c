"""What the document promises over the whole program, from a text to a journal (points 1, 2, 21, 23, 28, 29, 38, 39)."""

import random
import unittest

from missesnone import errors
from missesnone.chains import run_chain
from missesnone.claims import claim, first_wrong
from missesnone.comparing import first_difference
from missesnone.cover import cover, goes_on, untouched
from missesnone.faults import faults, faulty
from missesnone.fewest import best, fewest
from missesnone.journals import journal, replay
from missesnone.orders import alike
from missesnone.papers import accepts, paper
from missesnone.programs import run, with_rows
from missesnone.shrinking import endings, shrunk
from missesnone.suites import catches, missed, suite, verdicts
from missesnone.texts import format_program, parse_program
from missesnone.workshops import Workshop, blame, clashes
from models import KINDS, random_program, ranked_inputs
from samples import EXAMPLE, LEDGER, as_lists, as_tuples, call, example, shown
from workshop_models import snapshot


def texts():
    """Texts of programs that have at most 200 faults of all kinds."""
    found = [EXAMPLE]
    for seed in range(12):
        text = format_program(random_program(seed, [(0, 1, 2), (0, 0, 1), (0, 1)][seed % 3], writes=0.5, many=5))
        if len(faults(parse_program(text), ["next", "drop", "label"])) > 0:
            found.append(text)
    return found


def some_faults(program, chance):
    """Some of the faults of all kinds, at most 200."""
    kinds = chance.sample(KINDS, 3)
    try:
        return faults(program, kinds, two=True)
    except errors.TooLarge:
        return faults(program, kinds)


class FromATextToAJournal(unittest.TestCase):
    def test_suites_papers_workshops_and_journals(self):
        for seed, text in enumerate([*texts(), LEDGER]):
            program = parse_program(text)
            self.assertEqual(parse_program(format_program(program)), program)
            some = some_faults(program, random.Random(seed))
            tests = suite(program, some)
            made = paper(program, some, tests)
            self.assertIs(accepts(program, some, tests, made), True)
            self.assertIs(accepts(program, some, tests, as_lists(made)), True)
            self.assertEqual(missed(program, some, tests), [])
            harmless = [number for number, (word, _) in enumerate(made) if word == "same"]
            self.assertEqual(harmless, [number for number, told in enumerate(verdicts(program, some)) if told is None])
            self.require_workshop(program, some, tests, harmless)

    def require_workshop(self, program, some, tests, harmless):
        """A faulty program passes all tests of the suite in a workshop only if its fault is harmless."""
        workshop = Workshop(program)
        for events in tests[:40]:
            workshop.test(events, run(program, events)[1])
        self.assertEqual(workshop.verdicts(), [True] * len(tests[:40]))
        self.assertEqual(workshop.runs, len(tests[:40]))
        for number, fault in list(enumerate(some))[:12]:
            first = len(workshop.edits())
            for cell, row in fault:
                workshop.edit(number % 10, cell, row)
            self.assertEqual(workshop.program(), faulty(program, fault))
            told = [not catches(program, fault, events) for events in tests[:40]]
            self.assertEqual(workshop.verdicts(), told)
            if number in harmless or len(tests) <= 40:
                self.assertEqual(all(told), number in harmless)
            if False in told:
                at = told.index(False)
                failing, passing = blame(workshop, at)
                self.assertNotEqual(failing, [])
                self.assertNotIn((), failing)
                self.assertNotIn(tuple(workshop.in_force), passing)
            again = replay(program, journal(workshop))
            self.assertEqual(again.events(), workshop.events())
            self.assertEqual(again.program(), workshop.program())
            self.assertEqual(again.verdicts(), workshop.verdicts())
            self.assertEqual(journal(again), journal(workshop))
            for edit in range(first, len(workshop.edits())):
                workshop.undo(edit)
            self.assertEqual(workshop.program(), program)

    def test_whoever_passes_the_suite_writes_the_same(self):
        passed = 0
        for seed, text in enumerate(texts()):
            program = parse_program(text)
            some = some_faults(program, random.Random(seed))
            tests = suite(program, some)
            for fault in some:
                if any(catches(program, fault, events) for events in tests):
                    continue
                passed += 1
                other = faulty(program, fault)
                self.assertIsNone(first_difference(program, other))
                for events in ranked_inputs(program.names, 3)[::3]:
                    self.assertEqual(run(program, events)[1], run(other, events)[1])
        self.assertGreater(passed, 20)

    def test_no_shrunk_input_is_shorter_than_the_verdict(self):
        for text in texts():
            program = parse_program(text)
            some = faults(program, ["label", "drop"])
            for fault, verdict in zip(some, verdicts(program, some)):
                if verdict is not None and len(verdict) <= 5:
                    other = faulty(program, fault)
                    result = shrunk(program, other, verdict)
                    self.assertEqual(len(result), len(verdict))
                    self.assertIs(catches(program, fault, result), True)

    def test_claims_of_faulty_programs(self):
        for text in texts():
            program = parse_program(text)
            some = faults(program, ["label", "drop"])
            for fault, verdict in zip(some, verdicts(program, some)):
                if verdict is not None:
                    other = faulty(program, fault)
                    self.assertEqual(first_wrong(program, verdict, claim(other, verdict)), len(verdict) - 1)
                    self.assertEqual(goes_on(program, other, verdict), len(verdict) - 1)

    def test_what_the_suite_does_not_touch(self):
        for text in texts():
            program = parse_program(text)
            some = faults(program, ["label", "drop", "repeat"])
            tests = suite(program, some)
            left = untouched(program, tests)
            self.assertLessEqual(set(left), {cell for cell, _ in cover(program)})
            for (cell, _), in some:
                if cell in left:
                    self.fail("a fault of writes in a reachable cell is caught by no test")
            self.assertEqual(untouched(program, [*tests, *[events for _, events in cover(program)]]), [])

    def test_the_fewest_tests_miss_nothing_that_is_caught_by_the_length(self):
        for text in texts():
            program = parse_program(text)
            some = faults(program, ["label", "drop", "repeat"])[:60]
            caught, tests = fewest(program, some, 2)
            if tests is not None:
                self.assertEqual(set(missed(program, some, tests)) & set(caught), set())
                with_all = best(program, some, 2, 2)
                many = sum(any(catches(program, fault, events) for events in with_all) for fault in some)
                self.assertTrue(many == len(caught) or len(tests) > 2)

    def test_a_chain_with_a_faulty_program(self):
        program = example()
        other = faulty(program, faults(program, ["label"])[0])
        events = [("put", 1), ("put", 0)]
        self.assertNotEqual(run_chain([program], [], events), run_chain([other], [], events))
        ending = endings(program, [("put", 1)], [("put", 0)])[0][0]
        self.assertEqual(ending, ((("low", 0),),))

    def test_suites_have_ranked_tests_that_may_be_replaced_by_alike_ones(self):
        for text in texts():
            program = parse_program(text)
            some = faults(program, ["label", "drop"])
            tests = suite(program, some)
            others = [[(name, 10 * number - 7) for name, number in events] for events in tests]
            self.assertTrue(all(alike(one, two) for one, two in zip(tests, others)))
            if some:
                self.assertEqual(shown(paper(program, some, others)), shown(paper(program, some, tests)))


class Arguments(unittest.TestCase):
    """Point 2: lists may be passed wherever tuples are described, and the other way round; nothing is modified."""

    def test_every_function(self):
        program = example()
        some = faults(program, ["label"])
        other = faulty(program, some[0])
        tests = suite(program, some)
        made = paper(program, some, tests)
        events = [("put", 5), ("put", 2)]
        for function, passed in [
            (paper, (program, some, tests)), (accepts, (program, some, tests, made)), (fewest, (program, some, 2)),
            (best, (program, some, 2, 2)), (cover, (program,)), (untouched, (program, tests)),
            (goes_on, (program, other, events)), (shrunk, (program, other, events)),
            (endings, (program, events, events)), (claim, (program, events)),
            (first_wrong, (program, events, claim(program, events))), (run_chain, ([program], [], events)),
        ]:
            expected = shown(call(self, function, *passed))
            for form in (as_lists, as_tuples):
                told = [form(part) if isinstance(part, (list, tuple)) else part for part in passed]
                self.assertEqual(shown(call(self, function, *told)), expected)

    def test_workshops_are_not_changed_by_what_they_are_passed_to(self):
        program = example()
        workshop = Workshop(program)
        for cell, row in [((1, 0, 0), (1, (0,), ())), ((1, 0, 1), (1, (0,), ((0, "low", 0),)))]:
            workshop.edit(0, cell, row)
        workshop.test([("put", 1), ("put", 0)], [(), ()])
        workshop.verdicts()
        workshop.edit(1, (1, 0, 0), (1, (0,), ((0, "low", 0),)))
        before = snapshot(workshop)
        for _ in range(2):
            blame(workshop, 0)
            clashes(workshop, 0, 1)
            journal(workshop)
            self.assertEqual(snapshot(workshop), before)

    def test_what_was_returned_stays_as_it_was(self):
        program = example()
        some = faults(program, ["label"])
        other = with_rows(program, [((1, 0, 0), (1, (0,), ()))])

        def everything():
            tests = suite(program, some)
            return [
                tests, paper(program, some, tests), fewest(program, some, 2), best(program, some, 2, 2), cover(program),
                untouched(program, tests), shrunk(program, other, [("put", 9), ("put", 5)]),
                endings(program, [("put", 5)], [("put", 2)]), claim(program, [("put", 5)]),
                run_chain([program], [], [("put", 5), ("put", 2)]),
            ]

        first = everything()
        before = shown(first)
        second = everything()
        self.assertEqual(shown(first), before)
        for result in second:
            if isinstance(result, list):
                result.clear()
        self.assertEqual(shown(first), before)
        self.assertEqual(shown(everything()), before)


if __name__ == "__main__":
    unittest.main()
