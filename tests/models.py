"""Points 14 to 16 and 22 told as plainly as possible, to compare the program with, and programs for it."""

import itertools
import random

from missesnone.faults import slips
from missesnone.programs import Program, cells, run, step
from samples import as_tuples, ledger, shown

SPARE = 10
KINDS = ("next", "hold", "drop", "label", "value", "repeat")


def candidates_at(program, cell):
    """How many candidates the cell has."""
    mode, _, position = cell
    return program.modes[mode][1] + (1 if position % 2 == 0 else 0)


def random_row(chance, program, cell, writes):
    """A row for the cell, with writes at most so often."""
    many = candidates_at(program, cell)
    modes = [mode for mode, (_, count) in enumerate(program.modes) if count <= many]
    follower = chance.choice(modes)
    kept = chance.choice(list(itertools.combinations(range(many), program.modes[follower][1])))
    written = []
    while chance.random() < writes and len(written) < 4 and many > 0:
        port = chance.randrange(len(program.ports))
        written.append((port, chance.choice(program.ports[port][1]), chance.randrange(many)))
    return (follower, kept, tuple(written))


def random_program(seed, counts=(0, 1, 2), names=("put", "take"), writes=0.4, many=12):
    """A program whose modes hold these numbers of integers, with random rows in some cells."""
    chance = random.Random(seed)
    modes = [(f"m{at}", count) for at, count in enumerate(counts)]
    ports = (("out", ("low", "high", "mid")), ("log", ("low",)))
    program = Program(names, ports, modes, ())
    chosen = chance.sample(cells(program), min(many, len(cells(program))))
    return Program(names, ports, modes, [(cell, random_row(chance, program, cell, writes)) for cell in chosen])


def changed(program, seed, many=1):
    """The program with random rows in some cells."""
    chance = random.Random(seed)
    rows = list(zip(cells(program), program.table))
    for at in chance.sample(range(len(rows)), many):
        rows[at] = (rows[at][0], random_row(chance, program, rows[at][0], 0.4))
    return Program(program.names, program.ports, program.modes, rows)


def some_programs():
    for seed in range(10):
        yield random_program(seed, (0, 1, 2, 1), writes=0.5, many=6)
    yield ledger()


def few_faults(program):
    return [(slip,) for slip in slips(program, KINDS)[:60]]


def long_way():
    """A program with 301 modes, one after the other, and faults that show at the first event, at the 300th, and not
    within the limit."""
    modes = [(f"m{at}", 0) for at in range(301)]
    low = ((0, "low", 0),)
    rows = [((at, 0, 0), (at + 1, (), low)) for at in range(300)]
    program = Program(("put",), [("out", ("low", "high"))], modes, rows)
    early = (((0, 0, 0), (1, (), ((0, "high", 0),))),)
    late = (((299, 0, 0), (300, (), ((0, "high", 0),))),)
    beyond = (((300, 0, 0), (300, (), ((0, "high", 0),))),)
    return program, early, late, beyond


def rank(number, numbers):
    """The number of different integers that are less."""
    return len({other for other in numbers if other < number})


def plain_ranked(events):
    numbers = [number for _, number in events]
    return [(name, rank(number, numbers)) for name, number in events]


def plain_joint(place, other):
    together = [*place[1], *other[1]]
    return tuple((mode, tuple(rank(number, together) for number in held)) for mode, held in (place, other))


def plain_pair(first, second, events):
    return plain_joint(run(first, events)[0], run(second, events)[0])


def plain_moves(names, pair):
    count = len(set(pair[0][1]) | set(pair[1][1]))
    return [(name, position) for name in names for position in range(2 * count + 1)]


def plain_continued(first, second, events, move):
    """All integers that point 15 allows are tried; they give the same input."""
    name, position = move
    doubled = [(heard, 2 * number) for heard, number in plain_ranked(events)]
    heard = [number for _, number in doubled]
    held = sorted(set(run(first, doubled)[0][1]) | set(run(second, doubled)[0][1]))
    if position % 2 == 1:
        return plain_ranked([*doubled, (name, held[position // 2])])
    found = []
    for number in range(-3, 2 * len(events) + 4):
        if number in heard:
            continue
        if not held:
            fits = all(number > other for other in heard)
        elif position == 0:
            fits = number < held[0] and all(number > other for other in heard if other < held[0])
        else:
            below = held[position // 2 - 1]
            fits = all(number > other for other in heard if other <= below)
            fits = fits and all(number < other for other in heard if other > below)
        if fits and plain_ranked([*doubled, (name, number)]) not in found:
            found.append(plain_ranked([*doubled, (name, number)]))
    assert len(found) == 1, found
    return found[0]


def plain_compare(first, second, limit=300):
    """The first difference and the kept inputs; "too large" in the place of the first difference if there are more."""
    kept = [[]]
    places = [plain_pair(first, second, [])]
    for events in kept:
        moves = plain_moves(first.names, plain_pair(first, second, events))
        longer = [plain_continued(first, second, events, move) for move in moves]
        for each in longer:
            if run(first, each)[1][-1] != run(second, each)[1][-1]:
                return each, kept
        for each in longer:
            if plain_pair(first, second, each) not in places:
                if len(kept) == limit:
                    return "too large", kept
                kept.append(each)
                places.append(plain_pair(first, second, each))
    return None, kept


def ranked_inputs(names, length):
    """All ranked inputs with so many events, in some order."""
    found = set()
    for heard in itertools.product(names, repeat=length):
        for numbers in itertools.product(range(length), repeat=length):
            if set(numbers) == set(range(len(set(numbers)))):
                found.add(tuple(zip(heard, numbers)))
    return [list(events) for events in sorted(found)]


def least_difference(first, second, length):
    """The length of the shortest inputs on which two programs differ, up to a length, or None."""
    for many in range(1, length + 1):
        for events in ranked_inputs(first.names, many):
            if run(first, events)[1] != run(second, events)[1]:
                return many
    return None


def plain_after(first, second, pair, move):
    """The joint place after the move, and both outputs with ranks, from integers with much room between them."""
    name, position = move
    held = sorted(set(pair[0][1]) | set(pair[1][1]))
    number = SPARE * held[position // 2] if position % 2 == 1 else SPARE * (position // 2) - SPARE // 2
    numbers = [number, *[SPARE * value for value in held]]
    places, outputs = [], []
    for program, (mode, ranks) in zip((first, second), pair):
        place, output, _ = step(program, (mode, tuple(SPARE * value for value in ranks)), (name, number))
        places.append(place)
        outputs.append(tuple((port, label, rank(value, numbers)) for port, label, value in output))
    return (plain_joint(*places), *outputs)


def all_joint_places(first, second):
    """All joint places of two programs, whether an input leads there or not."""
    found = []
    for mode, (_, count) in enumerate(first.modes):
        for other, (_, other_count) in enumerate(second.modes):
            for total in range(max(count, other_count), count + other_count + 1):
                for held in itertools.combinations(range(total), count):
                    for other_held in itertools.combinations(range(total), other_count):
                        if set(held) | set(other_held) == set(range(total)):
                            found.append(((mode, held), (other, other_held)))
    return found


def plain_is_pairing(first, second, value):
    """Point 22 for an entry with the word same, over texts that tell True from 1."""
    if not isinstance(value, (list, tuple)) or not value:
        return False
    possible = {shown(pair): pair for pair in all_joint_places(first, second)}
    texts = [shown(as_tuples(item)) for item in value]
    if any(text not in possible for text in texts) or possible[texts[0]] != ((0, ()), (0, ())):
        return False
    for text in texts:
        for move in plain_moves(first.names, possible[text]):
            after, output, other_output = plain_after(first, second, possible[text], move)
            if output != other_output or shown(after) not in texts:
                return False
    return True
