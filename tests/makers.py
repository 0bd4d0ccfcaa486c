"""Ports, conditions, steps, processes, libraries and nets by a seed, the same ones on each run."""

from nearhelp.errors import TooMany
from nearhelp.joins import left
from nearhelp.libraries import Library
from nearhelp.nets import Net
from nearhelp.ports import Ports
from nearhelp.processes import Process
from nearhelp.stills import still

NAMES = ["a", "b", "cup", "kettles"]


def make_ports(rng, most=12):
    names = rng.sample(["p", "q", "r", "s", "ab", "is", "due", "not", "port", "else", "zz", "a"], rng.randint(1, most))
    return Ports([(name, rng.choice([2, 3])) for name in names])


def make_amount(rng, ports, names):
    choice = rng.randrange(3)
    if choice == 0 and names:
        return rng.choice(names)
    if choice == 1:
        return ("due", rng.choice(ports.sides()))
    return rng.choice([0, 1, 2, 3, rng.randint(0, 9)])


def make_condition(rng, ports, names, depth=4):
    word = rng.choice(["is", "above", "both", "either", "not"]) if depth > 1 else rng.choice(["is", "above"])
    if word in ("is", "above"):
        return (word, make_amount(rng, ports, names), make_amount(rng, ports, names))
    many = 1 if word == "not" else 2
    return (word,) + tuple(make_condition(rng, ports, names, depth - 1) for _ in range(many))


def make_steps(rng, ports, names, depth=3, items=24):
    """Steps, with lists, at most so deep and with at most so many items in all."""
    steps = []
    for _ in range(rng.randint(0, min(6, items))):
        if items < 1:
            break
        words = (["set", "add", "take"] if names else []) + (["if", "repeat"] if depth > 1 else [])
        if not words:
            break
        word = rng.choice(words)
        items -= 1
        if word in ("set", "add", "take"):
            steps.append((word, rng.choice(names), make_amount(rng, ports, names)))
            continue
        head = rng.randint(0, 9) if word == "repeat" else make_condition(rng, ports, names, rng.randint(1, 4))
        inner = []
        for _ in range(2 if word == "if" else 1):
            inner.append(make_steps(rng, ports, names, depth - 1, min(items, rng.randint(0, 8))))
            items -= count_items(inner[-1])
        steps.append((word, head, *inner))
    return steps


def count_items(steps):
    return sum(1 + sum(count_items(part) for part in item[1:] if isinstance(part, list)) for item in steps)


def make_parts(rng, ports):
    """What a process is made of, behind its ports: name, numbers, begins, does, refuses."""
    names = rng.sample(NAMES, rng.randint(0, 2))
    sides = ports.sides()
    numbers = [(name, rng.randint(1, 3)) for name in names]
    begins = [[rng.choice(sides) for _ in range(rng.randint(1, 4))] for _ in range(rng.randint(1, 3))]
    does = [(side, make_steps(rng, ports, names)) for side in rng.sample(sides, rng.randint(0, len(sides)))]
    due = [side for begin in begins for side in begin]
    refuses = [(rng.choice(due), make_condition(rng, ports, names)) for _ in range(rng.randint(0, 6))]
    return rng.choice(["x", "tea", "abcdefgh", "process", "at"]), numbers, begins, does, refuses


def make_process(rng, ports):
    return Process(ports, *make_parts(rng, ports))


def make_state(rng, process):
    lot = sorted(rng.choice(process.ports.sides()) for _ in range(rng.randint(0, 4)))
    if rng.randrange(2):
        begin = list(rng.choice(process.begins))
        lot = sorted(rng.sample(begin, rng.randint(0, len(begin))))
    return (tuple(rng.randint(0, top) for _, top in process.numbers), tuple(lot))


def all_values(numbers):
    """All tuples of values of some numbers."""
    values = [()]
    for _, top in numbers:
        values = [row + (value,) for row in values for value in range(top + 1)]
    return values


def plain_processes(ports):
    """Processes with a beginning for each side of the ports at which this side alone is due."""
    sides = ports.sides()
    begins = [[[side] for side in sides[at:at + 3]] for at in range(0, len(sides), 3)]
    return [Process(ports, "plain" + "abcd"[at], [], begin, [], []) for at, begin in enumerate(begins)]


def make_helper(rng, ports, name):
    """A process that refuses some of what is due as long as something else is."""
    begins = [[rng.choice(ports.sides()) for _ in range(rng.randint(1, 4))] for _ in range(rng.randint(1, 2))]
    refuses = []
    for begin in begins:
        for _ in range(rng.randint(0, 2)):
            refuses.append((rng.choice(begin), ("above", ("due", rng.choice(begin)), rng.choice([0, 0, 1]))))
    return Process(ports, name, [], begins, [], refuses)


def make_library(rng, most_ports=2, plain=True, helping=True):
    """A library, of which all sides are plain or perhaps not, with processes that help or any ones."""
    while True:
        ports = make_ports(rng, most_ports)
        processes = plain_processes(ports) if plain else []
        for name in ["x", "y", "z"][:rng.randint(1, min(3, 6 - len(processes)))]:
            if helping:
                processes.append(make_helper(rng, ports, name))
            else:
                processes.append(Process(ports, name, *make_parts(rng, ports)[1:]))
        try:
            return Library(ports, processes)
        except TooMany:
            continue


def port_sides(kind):
    name, sides = kind
    return [f"{name}{digit}" for digit in range(1, sides + 1)]


def make_net(rng, library, most=8):
    """A net of a library whose sides are all plain: some hands, and plain ones as far as they are needed."""
    holders = [holder for standing in library.standings() for holder in library.holders(standing)]
    hands = [rng.choice(holders) for _ in range(rng.randint(1, most))]
    while True:
        meetings = []
        for kind in library.ports.kinds:
            rows = {side: [] for side in port_sides(kind)}
            for hand, (name, index) in enumerate(hands):
                for side in library.book(name).standing(index)[0]:
                    if side in rows:
                        rows[side].append(hand)
            longest = max(len(row) for row in rows.values())
            for side, row in rows.items():
                while len(row) < longest:
                    row.append(len(hands))
                    hands.append(library.holders(((side,), ()))[0])
            meetings += match(rng, kind[0], list(rows.values()))
        if None not in meetings:
            rng.shuffle(meetings)
            return Net(library, hands, meetings)
        hands += [library.holders(((side,), ()))[0] for side in library.ports.sides()]


def match(rng, name, rows):
    """Meetings of a port with these hands at its sides, or None where some hand would meet itself."""
    for _ in range(50):
        for row in rows:
            rng.shuffle(row)
        found = list(zip(*rows))
        if all(len(set(hands)) == len(hands) for hands in found):
            return [(name, hands) for hands in found]
    return [None]


def make_ranked_library(rng, most_ports=2, plain=True):
    """A library whose processes help at one side once so many of their ends at others have gone: of all answers."""
    while True:
        ports = make_ports(rng, most_ports)
        processes = plain_processes(ports) if plain else []
        for name in ["x", "y", "z"][:rng.randint(1, min(3, 6 - len(processes)))]:
            side, other = rng.sample(ports.sides(), 2)
            many = rng.randint(1, 3)
            refuses = [(side, ("above", ("due", other), rng.choice([0, many - 1, many - 1])))]
            processes.append(Process(ports, name, [], [[side] + [other] * many], [], refuses))
        try:
            return Library(ports, processes)
        except TooMany:
            continue


def make_any_library(rng):
    """A library of one of the kinds above."""
    plain = rng.random() < 0.6
    if rng.random() < 0.5:
        return make_ranked_library(rng, rng.randint(1, 3), plain)
    return make_library(rng, rng.randint(1, 4) if not plain else 2, plain, rng.random() < 0.6)


def make_part_plain_library(rng):
    """A library of which some sides are plain, and not all, whose processes help one after the other."""
    while True:
        ports = make_ports(rng, 2)
        sides = ports.sides()
        begins = [[side] for side in rng.sample(sides, rng.randint(1, min(3, len(sides) - 1)))]
        processes = [Process(ports, "plain", [], begins, [], [])]
        for name in ["x", "y", "z"][:rng.randint(1, 3)]:
            side, other = rng.sample(sides, 2)
            many = rng.randint(1, 3)
            refuses = [(side, ("above", ("due", other), many - 1))]
            processes.append(Process(ports, name, [], [[side] + [other] * many], [], refuses))
        try:
            library = Library(ports, processes)
        except TooMany:
            continue
        if not all(((side,), ()) in library.standings() for side in sides):
            return library


def make_running_library(rng):
    """A library, of any kind, that has a net, but none that stands still."""
    while True:
        choice = rng.randrange(3)
        library = [make_any_library, make_ranked_library, make_part_plain_library][choice](rng)
        if left(library) and still(library) is None:
            return library
