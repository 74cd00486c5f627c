"""Points 1, 2, 36 and 37: chains."""

import itertools
import random
import unittest

from missesnone.chains import run_chain
from missesnone.comparing import first_difference
from missesnone.errors import BrokenChain
from missesnone.programs import Program, run, step
from missesnone.texts import parse_program
from models import changed, random_program
from samples import as_lists, as_tuples, call, example, ledger, shown

HUGE = 10 ** 5000


def echo(names, times=1):
    """A program that writes each event so many times to a port whose labels are the names."""
    return Program(names, [("to", names)], [("m", 0)], [
        ((0, at, 0), (0, (), ((0, name, 0),) * times)) for at, name in enumerate(names)])


def plain_chain(programs, ports, events):
    """Each program hears the whole of what is written for an event before the next one hears anything."""
    places = [(0, ()) for _ in programs]
    found = []
    for event in events:
        heard = [event]
        for at, program in enumerate(programs):
            written = []
            for each in heard:
                places[at], output, _ = step(program, places[at], each)
                written.extend(output)
            if at < len(ports):
                name = program.ports[ports[at]][0]
                heard = [write[1:] for write in written if write[0] == name]
        found.append(tuple(written))
    return found


class Chains(unittest.TestCase):
    def require(self, programs, ports, events, expected):
        for form in (list, as_lists, as_tuples):
            passed = (list(programs) if form is list else tuple(programs), form(ports), form(events))
            self.assertEqual(shown(call(self, run_chain, *passed)), shown(expected))

    def test_chains_of_one_program(self):
        for program in (example(), ledger()):
            for numbers in itertools.product(range(3), repeat=3):
                events = [("put", number) for number in numbers]
                self.require([program], [], events, run(program, events)[1])
        self.require([example()], [], [("put", HUGE), ("put", -HUGE)], [(), (("out", "low", -HUGE),)])

    def test_no_events(self):
        self.require([example()], [], [], [])
        self.require([echo(("a",)), echo(("a",))], [0], [], [])

    def test_two_programs(self):
        second = parse_program("\n".join([
            "hear low high", "port log seen", "mode m 0", "mode n 1", "at m low 0 go n hold 0",
            "at m high 0 go n hold 0 write log seen 0", "at n low 0 go n hold 0 write log seen 1 write log seen 0",
            "at n high 2 go n hold 0 write log seen 1",
        ]))
        self.require([example(), second], [0], [("put", number) for number in (5, 2, 9, 1)], [
            (), (), (("log", "seen", 9),), (("log", "seen", 2), ("log", "seen", 1))])

    def test_only_the_port_that_is_heard(self):
        first = Program(("go",), [("x", ("a", "b")), ("y", ("b", "a")), ("z", ("a",))], [("m", 0)], [
            ((0, 0, 0), (0, (), ((0, "a", 0), (1, "b", 0), (2, "a", 0), (0, "b", 0))))])
        self.require([first, echo(("a", "b"))], [0], [("go", 4)], [(("to", "a", 4), ("to", "b", 4))])
        self.require([first, echo(("b", "a"))], [1], [("go", 4)], [(("to", "b", 4),)])
        self.require([first, echo(("a",))], [2], [("go", 4), ("go", 5)], [(("to", "a", 4),), (("to", "a", 5),)])

    def test_programs_go_on_from_the_places_that_they_have_reached(self):
        counter = Program(("a",), [("to", ("a",))], [("m", 0), ("n", 0), ("o", 0)], [
            ((0, 0, 0), (1, (), ())), ((1, 0, 0), (2, (), ())), ((2, 0, 0), (0, (), ((0, "a", 0),)))])
        events = [("a", number) for number in range(18)]
        wrote = (("to", "a", 0),)
        self.require([counter, counter], [0], events, [
            tuple((port, label, at) for port, label, _ in wrote) if at % 9 == 8 else () for at in range(18)])
        self.require([counter, echo(("a",), 3), counter], [0, 0], events, [
            (("to", "a", at),) if at % 3 == 2 else () for at in range(18)])

    def test_long_chains(self):
        names = ("a", "b")
        self.require([echo(names)] * 60, [0] * 59, [("b", 7), ("a", 3)], [(("to", "b", 7),), (("to", "a", 3),)])
        self.require([echo(names, 2)] * 6, [0] * 5, [("b", 7)], [(("to", "b", 7),) * 64])

    def test_the_programs_may_be_the_same_object(self):
        program = echo(("a",), 2)
        self.require([program, program], [0], [("a", 1)], [(("to", "a", 1),) * 4])

    def test_plainly(self):
        chance = random.Random(1)
        written = 0
        for seed in range(60):
            programs, ports = [random_program(seed, (0, 1, 2), writes=0.7, many=14)], []
            for many in range(seed % 4):
                port = chance.randrange(2)
                ports.append(port)
                names = programs[-1].ports[port][1]
                programs.append(random_program(100 * seed + many, (0, 1, 2), names, writes=0.7, many=14))
            events = [(chance.choice(("put", "take")), chance.randrange(-4, 5)) for _ in range(8)]
            expected = plain_chain(programs, ports, events)
            written += len(programs) > 1 and any(expected)
            self.require(programs, ports, events, expected)
        self.assertGreater(written, 20)

    def test_programs_without_a_difference_may_replace_each_other(self):
        replaced = 0
        for seed in range(120):
            first = random_program(seed, (0, 1, 2), writes=0.5, many=10)
            second = changed(first, seed)
            if first == second or first_difference(first, second) is not None:
                continue
            before, after = echo(("put", "take")), random_program(seed, (0, 1), ("low", "high", "mid"), many=6)
            for events in itertools.product([("put", 0), ("take", 1), ("put", 2)], repeat=4):
                replaced += 1
                self.assertEqual(
                    run_chain([before, first, after], [0, 0], events),
                    run_chain([before, second, after], [0, 0], events))
        self.assertGreater(replaced, 400)

    def test_returned_lists_are_new(self):
        run_chain([example()], [], [("put", 1)]).clear()
        self.assertEqual(run_chain([example()], [], [("put", 1)]), [()])


class Broken(unittest.TestCase):
    def require(self, programs, ports, index):
        for events in ([], [("put", 1), ("put", 0)], [("unheard", 1)]):
            for form in (list, tuple):
                with self.assertRaises(BrokenChain) as caught:
                    call(self, run_chain, form(programs), form(ports), events)
                self.assertEqual(shown(caught.exception.index), shown(index))

    def test_names_that_are_not_the_labels(self):
        fine = echo(("low", "high"))
        for names in (("low",), ("high", "low"), ("low", "high", "mid"), ("put",), ("out",), ("low", "mid")):
            self.require([example(), echo(names)], [0], 1)
            self.require([example(), fine, echo(names)], [0, 0], 2)
            self.require([example(), echo(names), fine], [0, 0], 1)
            self.require([example(), fine, fine, fine, echo(names), echo(names)], [0, 0, 0, 0, 0], 4)

    def test_ports_that_are_not_there(self):
        fine = echo(("low", "high"))
        for port in (1, 2, 3, -1, -2, HUGE, -HUGE, True, False, None, "0", "out", (0,)):
            self.require([example(), fine], [port], 1)
            self.require([example(), fine, fine], [0, port], 2)
            self.require([example(), fine, fine], [port, 0], 1)
            self.require([example(), fine, fine], [port, port], 1)
        program = ledger()
        self.assertEqual(run_chain([program, echo(("low", "seen"))], [1], []), [])
        self.require([program, echo(("low", "seen"))], [0], 1)
        self.require([program, echo(("low", "seen"))], [2], 1)

    def test_too_few_ports(self):
        fine = echo(("low", "high"))
        self.require([example(), fine], [], 1)
        self.require([example(), fine, fine], [0], 2)

    def test_the_first_one_may_hear_anything(self):
        self.assertEqual(run_chain([example(), echo(("low", "high"))], [0], [("put", 1), ("put", 0)]), [
            (), (("to", "low", 0),)])

    def test_before_anything_is_heard(self):
        # An event that nobody hears would fail otherwise.
        self.require([example(), echo(("low", "high")), echo(("low",))], [0, 0], 2)


if __name__ == "__main__":
    unittest.main()
