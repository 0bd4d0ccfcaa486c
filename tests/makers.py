"""Ports, conditions, steps, processes and libraries by a seed, the same ones on each run."""

from nearhelp.processes import Process
from nearhelp.ports import Ports

NAMES = ["a", "b", "cup", "kettles"]


def make_ports(rng, most=12):
    names = rng.sample(["p", "q", "r", "s", "ab", "is", "due", "not", "port", "else", "zz", "a"], rng.randint(1, most))
    return Ports([(name, rng.choice([2, 3])) for name in names])


def make_amount(rng, ports, names):
    choice = rng.randrange(3)
    if choice == 0 and names:
        return rng.choice(names)
    if choice == 1:
        return ("due", rng.choice(ports.sides()))
    return rng.choice([0, 1, 2, 3, rng.randint(0, 9)])


def make_condition(rng, ports, names, depth=4):
    word = rng.choice(["is", "above", "both", "either", "not"]) if depth > 1 else rng.choice(["is", "above"])
    if word in ("is", "above"):
        return (word, make_amount(rng, ports, names), make_amount(rng, ports, names))
    many = 1 if word == "not" else 2
    return (word,) + tuple(make_condition(rng, ports, names, depth - 1) for _ in range(many))


def make_steps(rng, ports, names, depth=3, items=24):
    """Steps, with lists, at most so deep and with at most so many items in all."""
    steps = []
    for _ in range(rng.randint(0, min(6, items))):
        if items < 1:
            break
        words = (["set", "add", "take"] if names else []) + (["if", "repeat"] if depth > 1 else [])
        if not words:
            break
        word = rng.choice(words)
        items -= 1
        if word in ("set", "add", "take"):
            steps.append((word, rng.choice(names), make_amount(rng, ports, names)))
            continue
        head = rng.randint(0, 9) if word == "repeat" else make_condition(rng, ports, names, rng.randint(1, 4))
        inner = []
        for _ in range(2 if word == "if" else 1):
            inner.append(make_steps(rng, ports, names, depth - 1, min(items, rng.randint(0, 8))))
            items -= count_items(inner[-1])
        steps.append((word, head, *inner))
    return steps


def count_items(steps):
    return sum(1 + sum(count_items(part) for part in item[1:] if isinstance(part, list)) for item in steps)


def make_parts(rng, ports):
    """What a process is made of, behind its ports: name, numbers, begins, does, refuses."""
    names = rng.sample(NAMES, rng.randint(0, 2))
    sides = ports.sides()
    numbers = [(name, rng.randint(1, 3)) for name in names]
    begins = [[rng.choice(sides) for _ in range(rng.randint(1, 4))] for _ in range(rng.randint(1, 3))]
    does = [(side, make_steps(rng, ports, names)) for side in rng.sample(sides, rng.randint(0, len(sides)))]
    due = [side for begin in begins for side in begin]
    refuses = [(rng.choice(due), make_condition(rng, ports, names)) for _ in range(rng.randint(0, 6))]
    return rng.choice(["x", "tea", "abcdefgh", "process", "at"]), numbers, begins, does, refuses


def make_process(rng, ports):
    return Process(ports, *make_parts(rng, ports))


def make_state(rng, process):
    lot = sorted(rng.choice(process.ports.sides()) for _ in range(rng.randint(0, 4)))
    if rng.randrange(2):
        begin = list(rng.choice(process.begins))
        lot = sorted(rng.sample(begin, rng.randint(0, len(begin))))
    return (tuple(rng.randint(0, top) for _, top in process.numbers), tuple(lot))


def all_values(numbers):
    """All tuples of values of some numbers."""
    values = [()]
    for _, top in numbers:
        values = [row + (value,) for row in values for value in range(top + 1)]
    return values
