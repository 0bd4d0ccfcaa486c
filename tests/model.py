"""What processes mean [52], [53], told a second time: conditions and steps as Python's own."""


def amount_code(amount):
    if isinstance(amount, tuple):
        return f"lot.count({amount[1]!r})"
    return f"now[{amount!r}]" if isinstance(amount, str) else str(amount)


def condition_code(condition):
    word, parts = condition[0], condition[1:]
    if word in ("is", "above"):
        return f"({amount_code(parts[0])} {'==' if word == 'is' else '>'} {amount_code(parts[1])})"
    inner = [condition_code(part) for part in parts]
    if word == "not":
        return f"(not {inner[0]})"
    return f"({inner[0]} {'and' if word == 'both' else 'or'} {inner[1]})"


def steps_code(steps, front):
    lines = [front + "pass"]
    for item in steps:
        if item[0] == "if":
            lines += [f"{front}if {condition_code(item[1])}:"] + steps_code(item[2], front + " ")
            lines += [f"{front}else:"] + steps_code(item[3], front + " ")
        elif item[0] == "repeat":
            lines += [f"{front}for _ in range({item[1]}):"] + steps_code(item[2], front + " ")
        else:
            word, name, amount = item
            sign = {"set": "0 *", "add": "", "take": ""}[word]
            join = "-" if word == "take" else "+"
            value = f"{sign} now[{name!r}] {join} {amount_code(amount)}".strip()
            lines.append(f"{front}now[{name!r}] = max(0, min(tops[{name!r}], {value}))")
    return lines


class Model:
    def __init__(self, process):
        self.process = process
        self.tops = dict(process.numbers)
        self.acts = {}
        for side, steps in process.does:
            space = {}
            exec("\n".join(["def act(now, tops, lot):"] + steps_code(steps, " ")), space)
            self.acts[side] = space["act"]
        self.tests = [(side, condition_code(condition)) for side, condition in process.refuses]

    def now(self, state):
        return {name: value for (name, _), value in zip(self.process.numbers, state[0])}

    def refused(self, state):
        space = {"now": self.now(state), "lot": state[1]}
        return tuple(sorted({side for side, code in self.tests if side in state[1] and eval(code, space)}))

    def done(self, state, side):
        """The state behind the steps of a side, with the same lot."""
        now = self.now(state)
        if side in self.acts:
            self.acts[side](now, self.tops, state[1])
        return (tuple(now.values()), state[1])

    def step(self, state, side):
        lot = list(state[1])
        lot.remove(side)
        return self.done((state[0], tuple(lot)), side)

    def states(self):
        """The states of the book, by trying all orders of meetings."""
        found = []
        wait = [(tuple(0 for _ in self.process.numbers), tuple(sorted(begin))) for begin in self.process.begins]
        while wait:
            state = wait.pop()
            if state in found or not state[1]:
                continue
            found.append(state)
            closed = self.refused(state)
            wait += [self.step(state, side) for side in state[1] if side not in closed]
        return sorted(found)
