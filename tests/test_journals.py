"""Points 1, 2, 32, 38 and 39: journals, and replaying them."""

import random
import unittest

from missesnone.errors import (
    BadEdit, BadTest, Changed, Impossible, JournalError, TooManyEdits, UnknownEdit, UnknownTest, WorkshopFull,
)
from missesnone.journals import journal, replay
from missesnone.programs import Program, run
from missesnone.workshops import Workshop, blame, clashes
from journal_models import plain_journal, plain_replay, sums, with_sums
from models import some_programs
from samples import as_lists, example, ledger, shown
from workshop_models import put, random_entry, random_workshop, snapshot

LOW = ((0, "low", 0),)
LONGEST = 10 ** 30 - 1
IDLE = "edit 0 at b put 1 go b hold 0"
LOUD = "edit 3 at b put 0 go b hold 0 write out low 0"
TESTED = "test put 5 0 put 2 1 out low 2"


def story():
    """A workshop of the example with an entry of each kind."""
    workshop = Workshop(example())
    workshop.edit(3, (1, 0, 0), (1, (0,), LOW))
    workshop.test([("put", 5), ("put", 2)], [(), (("out", "low", 2),)])
    workshop.undo(0)
    workshop.edit(0, (1, 0, 1), (1, (0,), ()))
    workshop.redo(0)
    return workshop


STORY = (LOUD, TESTED, "undo 0", IDLE, "redo 0")


class Journals(unittest.TestCase):
    def require(self, workshop, expected):
        before = snapshot(workshop)
        self.assertEqual(journal(workshop), expected)
        self.assertEqual(snapshot(workshop), before)

    def test_a_new_workshop(self):
        self.require(Workshop(example()), "")

    def test_the_example_of_the_document(self):
        self.assertEqual(sums(["undo 0"]), [19441])
        self.assertEqual(with_sums("undo 0"), "undo 0 19441\n")
        with self.assertRaises(Impossible) as caught:
            replay(example(), "undo 0 19441\n")
        self.assertEqual(caught.exception.line, 1)

    def test_an_entry_of_each_kind(self):
        self.require(story(), with_sums(*STORY))
        self.assertEqual(journal(story()).split("\n")[0], "edit 3 at b put 0 go b hold 0 write out low 0 23908")

    def test_sums_go_on_from_line_to_line(self):
        lines = journal(story()).split("\n")
        for many in range(len(STORY) + 1):
            workshop = Workshop(example())
            for entry in story().events()[:many]:
                put(workshop, entry)
            self.require(workshop, "".join(f"{line}\n" for line in lines[:many]))
        self.assertNotEqual(lines[2], with_sums("undo 0")[:-1])

    def test_rows(self):
        workshop = Workshop(ledger())
        bodies = []
        for cell, row, line in [
            ((0, 0, 0), (0, (), ()), "at a put 0 go a"), ((0, 1, 0), (1, (0,), ()), "at a take 0 go b1 hold 0"),
            ((3, 1, 6), (3, (0, 2, 3), ((0, "put", 3), (1, "seen", 0), (0, "low", 1), (1, "low", 2))),
             "at d take 6 go d hold 0 2 3 write out put 3 write log seen 0 write out low 1 write log low 2"),
            ((3, 0, 5), (0, (), ((1, "seen", 2),)), "at d put 5 go a write log seen 2"),
            ((2, 0, 1), (2, (0, 1), ()), "at c put 1 go c hold 0 1"),
        ]:
            workshop.edit(len(bodies), cell, row)
            bodies.append(f"edit {len(bodies)} {line}")
        self.require(workshop, with_sums(*bodies))

    def test_tests(self):
        workshop = Workshop(ledger())
        bodies = []
        for events, outputs, body in [
            ([("put", 0)], [()], "test put 0 0"), ([("take", -7)], [()], "test take -7 0"),
            ([("put", LONGEST), ("take", -LONGEST)], [(), (("log", "seen", -LONGEST),)],
             f"test put {LONGEST} 0 take -{LONGEST} 1 log seen -{LONGEST}"),
            ([("put", 1)], [(("out", "put", 0), ("log", "low", -1), ("out", "low", 10), ("out", "low", 10))],
             "test put 1 4 out put 0 log low -1 out low 10 out low 10"),
        ]:
            workshop.test(events, outputs)
            bodies.append(body)
        self.require(workshop, with_sums(*bodies))

    def test_numbers_with_two_digits(self):
        workshop = Workshop(example())
        for _ in range(12):
            workshop.edit(9, (1, 0, 1), (1, (0,), ()))
        workshop.undo(11)
        workshop.redo(11)
        self.require(workshop, with_sums(*["edit 9 at b put 1 go b hold 0"] * 12, "undo 11", "redo 11"))

    def test_runs_are_not_in_the_journal(self):
        workshop = story()
        before = journal(workshop)
        workshop.verdicts()
        self.require(workshop, before)

    def test_plainly(self):
        for seed, base in enumerate([example(), *some_programs()] * 2):
            workshop, plain = random_workshop(random.Random(seed), base, 20)
            self.require(workshop, plain_journal(base, plain.entries))


class Replays(unittest.TestCase):
    def require(self, base, text, entries):
        before = shown(base)
        workshop = replay(base, text)
        self.assertEqual(shown(base), before)
        self.assertIs(type(workshop), Workshop)
        expected = Workshop(base)
        for entry in entries:
            put(expected, entry)
        self.assertEqual(snapshot(workshop), snapshot(expected))
        self.assertEqual(workshop.runs, 0)
        self.assertEqual(workshop.stale(), list(range(len(workshop.tests()))))
        return workshop

    def refuse(self, base, text, error, line):
        before = shown(base)
        with self.subTest(text[-300:]):
            with self.assertRaises(JournalError) as caught:
                replay(base, text)
            self.assertIs(type(caught.exception), error)
            self.assertEqual(shown(caught.exception.line), shown(line))
            self.assertEqual(shown(base), before)

    def compare(self, base, text):
        """Require what the plain model says, and return it."""
        expected = plain_replay(base, text)
        if isinstance(expected, list):
            self.require(base, text, expected)
        else:
            self.refuse(base, text, {"Changed": Changed, "Impossible": Impossible}[expected[0]], expected[1])
        return expected

    def test_no_lines(self):
        for text in ("", "undo", "undo 0 19441", "nothing of this is read", LOUD, " ", "0"):
            self.require(example(), text, [])

    def test_an_entry_of_each_kind(self):
        workshop = self.require(example(), with_sums(*STORY), story().events())
        self.assertEqual(journal(workshop), with_sums(*STORY))
        workshop.edit(1, (1, 0, 0), (1, (0,), ()))
        self.assertEqual(workshop.verdicts(), [False])
        self.assertEqual(workshop.runs, 1)

    def test_journals_of_workshops(self):
        for seed, base in enumerate([example(), *some_programs()] * 2):
            workshop, plain = random_workshop(random.Random(seed), base, 25)
            workshop.verdicts()
            text = journal(workshop)
            again = self.require(base, text, plain.entries)
            self.assertEqual(journal(again), text)
            self.assertEqual(again.verdicts(), workshop.verdicts())
            self.assertEqual(again.program(), workshop.program())
            self.assertEqual(clashes(again, 0, 1), clashes(workshop, 0, 1))
            self.assertEqual(replay(as_base(base), text).events(), workshop.events())

    def test_cut_off_at_each_place(self):
        text = with_sums(*STORY)
        entries = story().events()
        for end in range(len(text) + 1):
            self.require(example(), text[:end], entries[:text[:end].count("\n")])
        for rest in ("undo 7", "\r", " ", "x" * 30000, "edit 3 at"):
            self.require(example(), text + rest, entries)

    def test_each_character_changed_left_out_or_added(self):
        text = with_sums(*STORY)
        told = {}
        for at in range(len(text) + 1):
            for new in ("", " ", "0", "1", "-", "a", "o", "\n"):
                for rest in (text[at + 1:], text[at:]):
                    expected = self.compare(example(), text[:at] + new + rest)
                    key = "taken" if isinstance(expected, list) else expected[0]
                    told[key] = told.get(key, 0) + 1
        self.assertGreater(told["Changed"], 2000)

    def test_lines_left_out_added_and_exchanged(self):
        lines = with_sums(*STORY).splitlines(keepends=True)
        for at in range(len(lines)):
            self.compare(example(), "".join(lines[:at] + lines[at + 1:]))
            self.compare(example(), "".join(lines[:at] + lines[at:at + 1] * 2 + lines[at + 1:]))
            for other in range(at):
                exchanged = list(lines)
                exchanged[at], exchanged[other] = lines[other], lines[at]
                self.refuse(example(), "".join(exchanged), Changed, other + 1)
        self.refuse(example(), "".join(lines[1:]), Changed, 1)

    def test_empty_lines(self):
        text = with_sums(*STORY)
        lines = text.splitlines(keepends=True)
        self.refuse(example(), "\n", Changed, 1)
        self.refuse(example(), "\n" + text, Changed, 1)
        for at in range(len(lines) + 1):
            self.refuse(example(), "".join([*lines[:at], "\n", *lines[at:]]), Changed, at + 1)
        # The checksum of no characters at all is that of the line before.
        self.refuse(example(), "1\n", Changed, 1)
        self.refuse(example(), " 1\n", Changed, 1)

    def test_sums_that_are_left_out_or_written_otherwise(self):
        lines = with_sums(*STORY).splitlines()
        for at, checksum in enumerate(sums(STORY)):
            body = STORY[at]
            for line in (body, f"{body} ", f"{body} 0{checksum}", f"{body} +{checksum}", f"{body} {checksum} ",
                         f"{body}  {checksum}", f"{body} {checksum + 65521}", f"{body} -{checksum}",
                         f" {body} {checksum}",
                         f"{body} {checksum}.", f"{body} {checksum + 1}", f"{body} {checksum} {checksum}",
                         f"{body}{checksum}", f"{body} {checksum:x}x", f"{body} {checksum}\r", f"{body}\t{checksum}"):
                changed = "\n".join([*lines[:at], line, *lines[at + 1:], ""])
                self.refuse(example(), changed, Changed, at + 1)

    def test_small_sums_and_zero(self):
        # A sum of less than five digits stands there without zeros ahead.
        found = {}
        for number in range(10000):
            body = f"test put {number} 0"
            found.setdefault(len(str(sums([body])[0])), body)
        for digits in (3, 4, 5):
            body = found[digits]
            self.require(example(), with_sums(body), [("test", (("put", int(body.split(" ")[2])),), ((),))])
            self.refuse(example(), f"{body} {sums([body])[0]:06d}\n", Changed, 1)
        zero = next(body for body in (f"test put {number} 0" for number in range(10 ** 6)) if sums([body]) == [0])
        self.assertEqual(len(replay(example(), f"{zero} 0\n").tests()), 1)
        for told in ("", "00", "-0", "65521"):
            self.refuse(example(), f"{zero} {told}\n", Changed, 1)

    def test_lines_without_a_form(self):
        fine = (LOUD, "undo 0")
        for body in [
            "", "edit", "undo", "redo", "test", "Undo 0", "undo 0 0", "undo  0", "undo 0 ", " undo 0", "undo x",
            "undo +0",
            "undo -1", "undo 0x0", "redo -0", "redo 1.0", "undo 00", "undo 01", "redo 007", "undo 10000", "redo 99999",
            "undo 0000", "redo 12345", "hear put", "at b put 0 go b hold 0", "edit at b put 0 go b hold 0",
            "edit 10 at b put 0 go b hold 0", "edit 00 at b put 0 go b hold 0", "edit -1 at b put 0 go b hold 0",
            "edit x at b put 0 go b hold 0", "edit  at b put 0 go b hold 0", "edit 0 0 at b put 0 go b hold 0",
            "edit 0 b put 0 go b hold 0", "edit 0 hear put", "edit 0 mode b 1", "edit 0 port out low high", "edit 0 at",
            "edit 0 at b put 0 go b", "edit 0 at b put 0 go b hold", "edit 0 at b put 0 go b hold 0 1",
            "edit 0 at b put 0 go a hold 0", "edit 0 at b put 0 go b hold 2", "edit 0 at b put 1 go b hold 1",
            "edit 0 at b put 3 go b hold 0", "edit 0 at a put 1 go a", "edit 0 at b put 7 go b hold 0",
            "edit 0 at c put 0 go b hold 0", "edit 0 at b take 0 go b hold 0", "edit 0 at b put 0 go c hold 0",
            "edit 0 at b put 0 go b hold 0 write log low 0", "edit 0 at b put 0 go b hold 0 write out mid 0",
            "edit 0 at b put 0 go b hold 0 write out low 2", "edit 0 at b put 0 go b hold 0 write out low",
            "edit 0 at b put 00 go b hold 0", "edit 0 at b put 0 go b hold 0" + " write out low 0" * 5,
            "edit 0 at b put 0 go b write out low 0 hold 0", "edit 0 at b put 0 go b hold 0 ",
            "test put", "test put 1", "test put 1 1", "test put 1 1 out", "test put 1 1 out low", "test put 1 0 0",
            "test put 1 1 out low 1 out low 1", "test put 1 2 out low 1", "test take 1 0", "test low 1 0",
            "test put 1 1 log low 1", "test put 1 1 out mid 1", "test put 1 1 out put 1", "test put 1 1 low out 1",
            "test put x 0", "test put 1 x", "test put 1 -1", "test put 1 -0", "test put 1 00",
            "test put 1 01 out low 1",
            "test put 01 0", "test put 00 0", "test put -0 0", "test put -01 0", "test put +1 0", "test put - 0",
            "test put --1 0", "test put 1- 0", "test put 1 1 out low 01", "test put 1 1 out low -0",
            "test put 1 1 out low -", "test put 1 1 out low +1", "test  put 1 0", "test put  0", "test put 1 ",
            "test put 1 0  put 2 0", "test 0", "test 1 put 0", "test put 1 10000", "test put 1 00000",
            f"test put {LONGEST + 1} 0", f"test put -{LONGEST + 1} 0", f"test put 0{LONGEST} 0",
            f"test put 1 1 out low {LONGEST + 1}", f"test put 1 1 out low -{LONGEST + 1}",
            "test put " + "9" * 6000 + " 0",
        ]:
            self.refuse(example(), with_sums(body), Changed, 1)
            self.refuse(example(), with_sums(*fine, body), Changed, 3)
            self.refuse(example(), with_sums(*fine, body, *fine), Changed, 3)
            self.assertEqual(plain_replay(example(), with_sums(*fine, body)), ("Changed", 3))

    def test_lines_with_a_form(self):
        for body in [
            "edit 0 at a put 0 go a", "edit 9 at a put 0 go b hold 0", "edit 5 at b put 2 go a write out high 1",
            "edit 0 at b put 1 go b hold 0" + " write out low 0" * 4, "edit 7 at b put 0 go b hold 1",
            "test put 0 0", "test put -1 0", f"test put {LONGEST} 0 put -{LONGEST} 1 out low -{LONGEST}",
            "test put 1 4" + " out low 0" * 4, "test put 10 0 put 100 0", "test put 1 1 out high 5 put 2 1 out low -5",
        ]:
            self.assertEqual(len(self.compare(example(), with_sums(body))), 1)
            self.assertEqual(journal(replay(example(), with_sums(body))), with_sums(body))

    def test_integers_of_30_and_31_digits(self):
        for number, digits in [(LONGEST, 30), (-LONGEST, 30), (10 ** 29, 30), (10 ** 30, 31), (-10 ** 30, 31)]:
            self.assertEqual(len(str(abs(number))), digits)
            for body in (f"test put {number} 0", f"test put 0 1 out low {number}", f"test put 1 0 put {number} 0"):
                if digits == 30:
                    self.assertEqual(len(self.require(example(), with_sums(body), plain_replay(
                        example(), with_sums(body))).tests()), 1)
                else:
                    self.refuse(example(), with_sums(body), Changed, 1)

    def test_numbers_of_4_and_of_5_digits(self):
        for word in ("undo", "redo"):
            for number, error in [
                (1, Impossible), (999, Impossible), (9999, Impossible), (10000, Changed), (10 ** 9, Changed),
            ]:
                self.refuse(example(), with_sums(f"{word} {number}"), error, 1)
                self.refuse(example(), with_sums(LOUD, TESTED, f"{word} {number}"), error, 3)
        for many, error in [(5, Impossible), (9999, Impossible), (10000, Changed)]:
            body = f"test put 1 {many}" + " out low 0" * many
            self.refuse(example(), with_sums(body), error, 1)
            self.refuse(example(), with_sums(LOUD, f"test put 1 0 put 2 {many}" + " out low 0" * many), error, 2)

    def test_entries_that_the_workshop_refuses(self):
        for bodies, line in [
            (["undo 0"], 1), (["redo 0"], 1), ([LOUD, "redo 0"], 2), ([LOUD, "undo 1"], 2),
            ([LOUD, "undo 0", "undo 0"], 3),
            ([LOUD, "undo 0", "redo 0", "redo 0"], 4), ([TESTED, "undo 0"], 2), ([LOUD, "undo 0", "redo 1"], 3),
            (["test put 1 5" + " out low 0" * 5], 1), ([LOUD, IDLE, "undo 2"], 3), (["undo 0", "undo 0"], 1),
            ([LOUD, "undo 1", "undo 2"], 2),
        ]:
            self.refuse(example(), with_sums(*bodies), Impossible, line)
            self.refuse(example(), with_sums(*bodies, LOUD), Impossible, line)
            self.assertEqual(plain_replay(example(), with_sums(*bodies)), ("Impossible", line))

    def test_all_lines_are_checked_first(self):
        text = with_sums("undo 0", LOUD)
        self.refuse(example(), text, Impossible, 1)
        self.refuse(example(), text + "x\n", Changed, 3)
        self.refuse(example(), with_sums("undo 0", "undo 00", "undo 0"), Changed, 2)
        self.refuse(example(), with_sums("undo 0", LOUD, TESTED) + "undo 0 1\nundo 0\n", Changed, 4)
        self.refuse(example(), with_sums(*["undo 0"] * 200, "undo"), Changed, 201)
        self.refuse(example(), with_sums(*[LOUD] * 120, "undo 00"), Changed, 121)

    def test_the_100th_and_the_101st_line(self):
        for bodies in (
            [LOUD] * 100, [TESTED] * 100, [LOUD, *["undo 0", "redo 0"] * 50][:100], [*STORY, *[IDLE] * 95],
        ):
            self.assertEqual(self.require(example(), with_sums(*bodies[:99]), plain_replay(
                example(), with_sums(*bodies[:99]))).size, 99)
            full = self.require(example(), with_sums(*bodies), plain_replay(example(), with_sums(*bodies)))
            self.assertEqual(full.size, 100)
            self.assertEqual(journal(full), with_sums(*bodies))
            for body in (LOUD, TESTED, "undo 0", "redo 0"):
                self.refuse(example(), with_sums(*bodies, body), Impossible, 101)
                self.refuse(example(), with_sums(*bodies, body, body), Impossible, 101)

    def test_names_modes_ports_and_labels_of_the_base(self):
        text = with_sums(*STORY)
        for old, new, line in [("a", "x", None), ("b", "x", 1)]:
            modes = [(new if name == old else name, count) for name, count in example().modes]
            base = Program(example().names, example().ports, modes, [])
            if line is None:
                self.assertEqual(len(replay(base, text).events()), 5)
            else:
                self.refuse(base, text, Changed, line)
        for names, ports, line in [
            (("take",), [("out", ("low", "high"))], 1), (("take", "put"), [("out", ("low", "high"))], None),
            (("put",), [("log", ("low",))], 1), (("put",), [("out", ("high",))], 1),
            (("put",), [("log", ("low",)), ("out", ("low",))], None),
            (("put",), [("log", ("low",)), ("out", ("high",))], 1),
        ]:
            base = Program(names, ports, example().modes, [])
            if line is None:
                self.assertEqual(len(replay(base, text).events()), 5)
            else:
                self.refuse(base, text, Changed, line)
        self.refuse(Program(("put",), [("out", ("low",))], [("a", 0), ("b", 2)], []), text, Changed, 1)

    def test_labels_belong_to_the_port_before_them(self):
        for body in ("test put 1 1 log high 1", "test put 1 1 out seen 1", "edit 0 at a put 0 go a write log high 0"):
            self.refuse(ledger(), with_sums(body), Changed, 1)
        for body in ("test put 1 1 log seen 1", "test put 1 1 out put 1", "edit 0 at a put 0 go a write log low 0"):
            self.assertEqual(len(self.compare(ledger(), with_sums(body))), 1)

    def test_changed_journals_plainly(self):
        told = {}
        for seed, base in enumerate([example(), *some_programs()]):
            chance = random.Random(seed)
            workshop, _ = random_workshop(chance, base, 12)
            bodies = [line.rpartition(" ")[0] for line in journal(workshop).splitlines()]
            for _ in range(40):
                other = list(bodies)
                at = chance.randrange(len(other))
                parts = other[at].split(" ")
                word = chance.randrange(len(parts))
                parts[word:word + 1] = chance.choice([
                    [], [parts[word]] * 2, [chance.choice(chance.choice(bodies).split(" "))], ["0"], ["1"], ["2"]])
                other[at] = " ".join(parts)
                expected = self.compare(base, with_sums(*other))
                key = "taken" if isinstance(expected, list) else expected[0]
                told[key] = told.get(key, 0) + 1
        self.assertTrue(told["taken"] > 50 and told["Changed"] > 100 and told["Impossible"] > 5, told)


def as_base(base):
    """The same program, made anew from lists."""
    return Program(list(base.names), list(base.ports), list(base.modes), as_lists([
        (cell, row) for cell, row in base.row_of.items()]))


class AfterReplay(unittest.TestCase):
    """Point 32: a workshop that was replayed has the errors of any other one."""

    def refuse(self, workshop, error, method, *passed):
        before = snapshot(workshop)
        with self.assertRaises(error) as caught:
            getattr(workshop, method)(*passed)
        self.assertIs(type(caught.exception), error)
        self.assertEqual(snapshot(workshop), before)

    def test_errors(self):
        for workshop in (story(), replay(example(), journal(story()))):
            self.refuse(workshop, BadEdit, "edit", 10, (1, 0, 0), (1, (0,), ()))
            self.refuse(workshop, BadEdit, "edit", True, (1, 0, 0), (1, (0,), ()))
            self.refuse(workshop, BadEdit, "edit", 0, (1, 0, 3), (1, (0,), ()))
            self.refuse(workshop, BadEdit, "edit", 0, (1, 0, 1), (1, (1,), ()))
            self.refuse(workshop, BadTest, "test", [("take", 1)], [()])
            self.refuse(workshop, BadTest, "test", [("put", True)], [()])
            self.refuse(workshop, BadTest, "test", [("put", 10 ** 30)], [()])
            self.refuse(workshop, BadTest, "test", [("put", 1)], [(("out", "mid", 1),)])
            self.refuse(workshop, BadTest, "test", [], [])
            self.refuse(workshop, UnknownEdit, "undo", 2)
            self.refuse(workshop, UnknownEdit, "redo", 0)
            with self.assertRaises(UnknownTest):
                blame(workshop, 1)
            for _ in range(5):
                workshop.edit(0, (1, 0, 1), (1, (0,), ()))
            with self.assertRaises(TooManyEdits):
                blame(workshop, 0)

    def test_full_workshops(self):
        workshop = replay(example(), with_sums(*STORY, *[TESTED] * 94))
        self.assertEqual(workshop.test([("put", 1)], [()]), 95)
        self.refuse(workshop, WorkshopFull, "undo", 0)
        self.refuse(workshop, WorkshopFull, "edit", 0, (1, 0, 1), (1, (0,), ()))
        self.refuse(workshop, WorkshopFull, "test", [("put", 1)], [()])
        self.refuse(workshop, UnknownEdit, "redo", 0)
        self.refuse(workshop, BadTest, "test", [("put", 1)], [])

    def test_a_replayed_workshop_goes_on_like_the_first_one(self):
        for seed, base in enumerate([example(), *some_programs()]):
            chance = random.Random(seed)
            workshop, plain = random_workshop(chance, base, 10)
            again = replay(base, journal(workshop))
            for _ in range(20):
                entry = random_entry(chance, plain)
                self.assertEqual(put(workshop, entry), put(again, entry))
                plain.add(entry)
                self.assertEqual(snapshot(again), snapshot(workshop))
                self.assertEqual(journal(again), journal(workshop))
                if len(workshop.in_force) <= 4:
                    for number in range(len(workshop.tests())):
                        self.assertEqual(blame(again, number), blame(workshop, number))
            self.assertEqual(again.verdicts(), workshop.verdicts())
            self.assertEqual(again.runs, workshop.runs)

    def test_replaying_leaves_nothing_behind(self):
        text = journal(story())
        first, second = replay(example(), text), replay(example(), text)
        first.test([("put", 1)], run(example(), [("put", 1)])[1])
        self.assertEqual(journal(second), text)
        self.assertEqual(len(first.tests()), 2)


if __name__ == "__main__":
    unittest.main()
