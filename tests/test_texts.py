"""Points 1, 2 and 8 to 11: program texts."""

import unittest

from missesnone.errors import (
    Malformed, Misplaced, MissError, Repeated, TextError, TooMany, Unfit, Unknown,
)
from missesnone.programs import Program, cells, idle_row, row_at, run, with_rows
from missesnone.texts import format_program, format_row, parse_program
from samples import EXAMPLE, LEDGER, as_lists, bare, call, example, ledger

HEAD = ["hear put take", "port out low high", "port log low seen", "mode a 0", "mode b 1", "mode c 2", "mode d 3"]


def text_of(*lines):
    return "\n".join([*HEAD, *lines])


def filled(length):
    """A text without an error that has exactly this length, about 20000."""
    modes = ["m" + sign for sign in "abcdefghijklm"]
    rows = [
        f"at {mode} {name} {position} go {mode} hold 0 1 2"
        for mode in modes for name in "vwxy" for position in range(7)
    ]
    write = " write p l 0"
    head = ["hear v w x y", "port p l", "mode a 0", *[f"mode {mode} 3" for mode in modes]]
    missing = length - len("\n".join([*head, "mode z 0", "mode y 0", *rows]))
    for at in range(missing // len(write)):
        rows[at % len(rows)] += write
    # What is still missing goes into the names of two modes that no line uses.
    rest = missing % len(write)
    spare = [f"mode {'z' * (1 + min(rest, 7))} 0", f"mode {'y' * (1 + max(rest - 7, 0))} 0"]
    return "\n".join([*head, *spare, *rows])


class Reading(unittest.TestCase):
    def test_the_example_of_the_document(self):
        program = call(self, parse_program, EXAMPLE)
        self.assertEqual(program, Program(
            ("put",), (("out", ("low", "high")),), (("a", 0), ("b", 1)),
            [
                ((0, 0, 0), (1, (0,), ())),
                ((1, 0, 0), (1, (0,), ((0, "low", 0),))),
                ((1, 0, 2), (1, (1,), ((0, "high", 1),))),
            ],
        ))
        self.assertEqual(
            run(program, [("put", 5), ("put", 2), ("put", 9)])[1],
            [(), (("out", "low", 2),), (("out", "high", 9),)])

    def test_cells_without_a_line_are_idle(self):
        program = parse_program(EXAMPLE)
        self.assertEqual(row_at(program, (1, 0, 1)), (1, (0,), ()))
        program = parse_program(text_of())
        for cell in cells(program):
            self.assertEqual(row_at(program, cell), idle_row(program, cell))

    def test_lines_at_in_any_order(self):
        lines = LEDGER.split("\n")
        self.assertEqual(parse_program("\n".join([*lines[:7], *reversed(lines[7:])])), ledger())

    def test_the_shortest_program(self):
        program = parse_program("hear w\nport p l\nmode m 0")
        self.assertEqual(program, Program(("w",), (("p", ("l",)),), (("m", 0),), []))

    def test_words_and_modes_as_long_as_they_may_be(self):
        program = parse_program("hear abcdefgh\nport zzzzzzzz yyyyyyyy\nmode a0123456 0\nmode b9zzzzzz 3")
        self.assertEqual(program.names, ("abcdefgh",))
        self.assertEqual(program.modes, (("a0123456", 0), ("b9zzzzzz", 3)))

    def test_four_names_and_four_labels(self):
        program = parse_program("hear d c b a\nport p d c b a\nmode m 0")
        self.assertEqual(program.names, ("d", "c", "b", "a"))
        self.assertEqual(program.ports, (("p", ("d", "c", "b", "a")),))

    def test_one_word_in_several_places(self):
        program = parse_program(
            "hear write hold\nport write write hold\nport hold write\nmode hold 0\nmode write 1\nmode go 2\n"
            "at hold write 0 go write hold 0 write write write 0 write hold write 0\n"
            "at go hold 3 go go hold 0 1 write write hold 1\nat write write 1 go hold write hold write 0")
        self.assertEqual(row_at(program, (0, 0, 0)), (1, (0,), ((0, "write", 0), (1, "write", 0))))
        self.assertEqual(row_at(program, (2, 1, 3)), (2, (0, 1), ((0, "hold", 1),)))
        self.assertEqual(row_at(program, (1, 0, 1)), (0, (), ((1, "write", 0),)))

    def test_three_held_and_four_writes(self):
        four = " write out low 3 write out low 3 write log seen 0 write out high 2"
        program = parse_program(text_of("at d take 6 go d hold 0 2 3" + four))
        self.assertEqual(row_at(program, (3, 1, 6)), (
            3, (0, 2, 3), ((0, "low", 3), (0, "low", 3), (1, "seen", 0), (0, "high", 2))))

    def test_the_idle_row_may_have_a_line(self):
        program = parse_program(text_of("at b put 0 go b hold 1"))
        self.assertEqual(program, parse_program(text_of()))
        with self.assertRaises(Repeated):
            parse_program(text_of("at b put 0 go b hold 1", "at b put 0 go b hold 1"))

    def test_three_ports_and_sixteen_modes(self):
        modes = [f"mode m{at} 0" for at in range(16)]
        ports = ["port p x", "port q x", "port r x"]
        program = parse_program("\n".join(["hear w", *ports, *modes]))
        self.assertEqual((len(program.ports), len(program.modes)), (3, 16))


class Errors(unittest.TestCase):
    def require(self, text, kind, line, word=None):
        with self.subTest(text[-60:]):
            with self.assertRaises(kind) as caught:
                call(self, parse_program, text)
            self.assertIs(type(caught.exception), kind)
            self.assertEqual(caught.exception.line, line)
            if kind in (Unknown, Repeated):
                self.assertEqual(caught.exception.word, word)
            self.assertIsInstance(caught.exception, TextError)
            self.assertIsInstance(caught.exception, MissError)

    def test_malformed_first_lines(self):
        for line in [
            "", " ", "hear", "hear ", " hear put", "hear  put", "hear put ", "hear put put",
            "hear a b c d e", "hear Put", "hear p1", "hear abcdefghi", "hear put,take", "heard put",
            "Hear put", "hear\tput", "nonsense", "put", "hear put-", "port", "mode", "at",
        ]:
            self.require(line, Malformed, 1)

    def test_malformed_ports(self):
        for line in [
            "port", "port out", "port out ", "port out low low", "port out a b c d e", "port 1 low",
            "port out low1", "port outoutout low", "port out lowlowlow", "port  out low", "port out low  high",
        ]:
            self.require("hear put\n" + line, Malformed, 2)

    def test_a_label_may_be_called_like_its_port(self):
        self.assertEqual(parse_program("hear w\nport w w\nmode w 0").ports, (("w", ("w",)),))

    def test_malformed_modes(self):
        for line in [
            "mode", "mode a", "mode a ", "mode a 4", "mode a -1", "mode a 00", "mode a 0 0", "mode 1a 0",
            "mode A 0", "mode aaaaaaaaa 0", "mode a0123456b 0", "mode a_b 0", "mode  0", "mode a x", "mode a 01",
            "mode a 12", "mode aB 0",
        ]:
            self.require("hear put\nport out low\n" + line, Malformed, 3)

    def test_malformed_rows(self):
        for line in [
            "at", "at a", "at a put", "at a put 0", "at a put 0 go", "at a put 0 to a", "at a put 7 go a",
            "at a put 00 go a", "at a put -1 go a", "at a put x go a", "at a put  go a", "at 1 put 0 go a",
            "at a put1 0 go a", "at a put 0 go 1", "at a put 0 go a ", "at a put 0 go a hold",
            "at b put 0 go a hold write out low 0", "at d put 0 go d hold 0 1 2 3", "at a put 0 go b hold 4",
            "at a put 0 go b hold 00", "at a put 0 go b hold 0  write out low 0", "at a put 0 go b 0",
            "at a put 0 go b holds 0", "at a put 0 go a write", "at a put 0 go a write out",
            "at a put 0 go a write out low", "at a put 0 go a write out low 4", "at a put 0 go a write out low 00",
            "at a put 0 go a write out low 0 0", "at a put 0 go a write out low 0 write",
            "at a put 0 go a write out low1 0", "at a put 0 go a write 0ut low 0", "at a put 0 go a writes out low 0",
            "at a put 0 go a" + 5 * " write out low 0", "at a put 0 go a write out low 0 hold 0",
            "at a put 0 go b hold 0 hold 0", "at a put 0 go b hold 0 write out low 0 hold 0", "At a put 0 go a",
            "at a put 0 go a write  low 0", "at a put 0 go a write out low ",
        ]:
            self.require(text_of(line), Malformed, 8)

    def test_a_newline_at_the_end_and_empty_lines(self):
        self.require(EXAMPLE + "\n", Malformed, 8)
        self.require("\n" + EXAMPLE, Malformed, 1)
        self.require(EXAMPLE.replace("\nmode a", "\n\nmode a"), Malformed, 3)
        self.require("\n", Malformed, 1)

    def test_misplaced_lines(self):
        for lines, line in [
            (["port out low"], 1), (["mode a 0"], 1), (["at a put 0 go a"], 1),
            (["hear put", "hear put"], 2), (["hear put", "mode a 0"], 2), (["hear put", "at a put 0 go a"], 2),
            (["hear put", "port out low", "hear take"], 3), (["hear put", "port out low", "at a put 0 go a"], 3),
            (["hear put", "port out low", "mode a 0", "hear take"], 4),
            (["hear put", "port out low", "mode a 0", "port log low"], 4),
            (["hear put", "port out low", "mode a 0", "at a put 0 go a", "mode b 0"], 5),
            (["hear put", "port out low", "mode a 0", "at a put 0 go a", "port log low"], 5),
            (["hear put", "port out low", "mode a 0", "at a put 0 go a", "hear take"], 5),
        ]:
            self.require("\n".join(lines), Misplaced, line)

    def test_texts_that_end_too_early(self):
        self.require("hear put", Misplaced, 2)
        self.require("hear put\nport out low", Misplaced, 3)
        self.require("hear put\nport out low\nport log low", Misplaced, 4)

    def test_the_empty_text_is_one_empty_line(self):
        self.require("", Malformed, 1)

    def test_unknown_words(self):
        for line, word in [
            ("at x put 0 go a", "x"), ("at a push 0 go a", "push"), ("at a put 0 go x", "x"),
            ("at a put 0 go a write up low 0", "up"), ("at a put 0 go a write out seen 0", "seen"),
            ("at a put 0 go a write log high 0", "high"), ("at a put 0 go a write low out 0", "low"),
            ("at a put 0 go a write out low 0 write log seen 0 write log up 0", "up"),
            ("at put a 0 go a", "put"), ("at a out 0 go a", "out"),
            ("at x y 0 go z write u v 0", "x"), ("at a y 0 go z write u v 0", "y"),
            ("at a put 0 go z write u v 0", "z"), ("at a put 0 go a write u v 0", "u"),
            ("at a put 0 go a write out v 0 write u low 0", "v"),
        ]:
            self.require(text_of(line), Unknown, 8, word)

    def test_unfit_modes(self):
        for count in "123":
            self.require(f"hear put\nport out low\nmode a {count}", Unfit, 3)

    def test_unfit_positions(self):
        for line in ["at a put 1 go a", "at a put 6 go a", "at b put 3 go a", "at c take 5 go a", "at c take 6 go a"]:
            self.require(text_of(line), Unfit, 8)
        for line in ["at a put 0 go a", "at b put 2 go a", "at c take 4 go a", "at d take 6 go a"]:
            parse_program(text_of(line))

    def test_unfit_numbers_of_sources(self):
        for line in [
            "at a put 0 go b", "at a put 0 go a hold 0", "at d put 0 go d", "at d put 0 go d hold 0 1",
            "at d put 0 go c hold 0 1 2", "at b put 0 go c hold 0", "at d put 0 go b write out low 0",
        ]:
            self.require(text_of(line), Unfit, 8)

    def test_unfit_orders_of_sources(self):
        for line in ["at c put 0 go c hold 1 0", "at c put 0 go c hold 1 1", "at d put 0 go d hold 0 2 1",
                     "at d put 0 go d hold 0 0 1"]:
            self.require(text_of(line), Unfit, 8)

    def test_unfit_sources(self):
        for line in [
            "at a put 0 go b hold 1", "at b put 1 go b hold 1", "at b put 0 go b hold 2", "at c put 3 go c hold 0 2",
            "at d put 5 go d hold 0 1 3", "at a put 0 go a write out low 1", "at b put 1 go a write out low 1",
            "at c put 1 go a write out low 0 write out low 2", "at c put 2 go a write out low 3",
            "at d put 3 go a write out low 3",
        ]:
            self.require(text_of(line), Unfit, 8)
        for line in [
            "at a put 0 go b hold 0", "at b put 1 go b hold 0", "at b put 0 go b hold 1", "at c put 3 go c hold 0 1",
            "at d put 6 go d hold 1 2 3 write out low 3", "at c put 2 go a write out low 2",
            "at d put 3 go a write out low 2",
        ]:
            parse_program(text_of(line))

    def test_repeated(self):
        self.require("hear put\nport out low\nport out high", Repeated, 3, "out")
        self.require("hear put\nport out low\nport log low\nport out low", Repeated, 4, "out")
        self.require("hear put\nport out low\nmode a 0\nmode b 1\nmode a 1", Repeated, 5, "a")
        self.require(
            text_of("at b take 2 go a", "at b put 2 go a", "at b take 2 go b hold 1"), Repeated, 10, "take")

    def test_too_many_ports_and_modes(self):
        ports = ["port p x", "port q x", "port r x"]
        self.require("\n".join(["hear w", *ports, "port s x"]), TooMany, 5)
        self.require("\n".join(["hear w", *ports, "port q x"]), Repeated, 5, "q")
        modes = [f"mode m{at} 0" for at in range(16)]
        self.require("\n".join(["hear w", ports[0], *modes, "mode n 0"]), TooMany, 19)
        self.require("\n".join(["hear w", ports[0], *modes, "mode m7 0"]), Repeated, 19, "m7")
        self.require("\n".join(["hear w", ports[0], *modes, "mode m0 3"]), Repeated, 19, "m0")

    def test_the_first_of_several_errors_of_a_line(self):
        for lines, kind, line, word in [
            (["port out low low"], Malformed, 1, None),
            (["hear put", "at x y 7 go z"], Malformed, 2, None),
            (["hear put", "at x y 0 go z"], Misplaced, 2, None),
            (["hear put", "mode a 1"], Misplaced, 2, None),
            ([*HEAD, "at a put 0 go a", "mode a 0"], Misplaced, 9, None),
            ([*HEAD, "port out low"], Misplaced, 8, None),
            ([*HEAD, "at a push 6 go d hold 3 2 1"], Unknown, 8, "push"),
            ([*HEAD, "at a put 6 go a write out up 3"], Unknown, 8, "up"),
            ([*HEAD, "at a put 0 go a", "at a put 0 go x"], Unknown, 9, "x"),
            ([*HEAD, "at a put 0 go a", "at a put 0 go b"], Unfit, 9, None),
            ([*HEAD, "at a put 0 go a", "at a put 0 go a"], Repeated, 9, "put"),
        ]:
            self.require("\n".join(lines), kind, line, word)

    def test_the_first_of_several_lines_with_errors(self):
        self.require(text_of("at a put 0 go x", "nonsense"), Unknown, 8, "x")
        self.require(text_of("at a put 1 go a", "at a put 0 go x"), Unfit, 8)
        self.require("hear put\nnonsense", Malformed, 2)
        self.require("hear put\nport p x\nport p y\nmode a 1", Repeated, 3, "p")
        self.require("hear put\nport p x\nmode a 0\nat b put 0 go a\nmode b 0", Unknown, 4, "b")

    def test_at_most_20000_characters(self):
        within = filled(20000)
        self.assertEqual(len(within), 20000)
        program = parse_program(within)
        self.assertEqual(format_program(program), within)
        self.require(filled(20001), TooMany, 0)
        self.require(20000 * "\n", Malformed, 1)
        self.require(20001 * "\n", TooMany, 0)
        self.require("hear put\n" + 19991 * " ", Malformed, 2)
        self.require("hear put\n" + 19992 * " ", TooMany, 0)


class Writing(unittest.TestCase):
    def test_the_example_of_the_document(self):
        self.assertEqual(call(self, format_program, example()), EXAMPLE)
        self.assertEqual(call(self, format_program, ledger()), LEDGER)

    def test_lines_at_come_in_the_order_of_the_cells(self):
        lines = LEDGER.split("\n")
        mixed = parse_program("\n".join([*lines[:7], *reversed(lines[7:])]))
        self.assertEqual(format_program(mixed), LEDGER)

    def test_idle_rows_have_no_line(self):
        program = with_rows(example(), [((0, 0, 0), (0, (), ())), ((1, 0, 0), (1, (1,), ()))])
        self.assertEqual(
            format_program(program),
            "hear put\nport out low high\nmode a 0\nmode b 1\nat b put 2 go b hold 1 write out high 1")

    def test_texts_read_back(self):
        programs = [example(), ledger(), bare(), parse_program(filled(20000))]
        for program in programs:
            self.assertEqual(parse_program(format_program(program)), program)

    def test_each_row_reads_back(self):
        program = ledger()
        for cell in cells(program):
            for row in [(0, (), ()), (0, (), ((1, "seen", 0), (0, "put", 0))), idle_row(program, cell)]:
                changed = with_rows(program, [(cell, row)])
                self.assertEqual(parse_program(format_program(changed)), changed)

    def test_longer_texts_are_written_too(self):
        modes = [("a", 0)] + [(f"mmmmmmm{at}", 3) for at in range(9)]
        writes = 4 * ((0, "llllllll", 0),)
        rows = [
            ((mode, name, position), (mode, (0, 1, 2), writes))
            for mode in range(1, 10) for name in range(4) for position in range(7)
        ]
        program = Program(("p", "q", "r", "s"), [("pppppppp", ("llllllll",))], modes, rows)
        text = format_program(program)
        self.assertEqual(len(text.split("\n")), 1 + 1 + 10 + len(rows))
        with self.assertRaises(TooMany):
            parse_program(text)

    def test_rows(self):
        program = ledger()
        for cell, row, line in [
            ((0, 0, 0), (0, (), ()), "at a put 0 go a"),
            ((0, 1, 0), (1, (0,), ()), "at a take 0 go b1 hold 0"),
            ((3, 1, 6), (3, (0, 1, 2), ()), "at d take 6 go d hold 0 1 2"),
            ((2, 0, 3), (0, (), ((0, "put", 1), (1, "low", 0))), "at c put 3 go a write out put 1 write log low 0"),
            ((1, 0, 2), (2, (0, 1), ((1, "seen", 1),)), "at b1 put 2 go c hold 0 1 write log seen 1"),
        ]:
            self.assertEqual(call(self, format_row, program, cell, row), line)
            self.assertEqual(call(self, format_row, program, as_lists(cell), as_lists(row)), line)


if __name__ == "__main__":
    unittest.main()
