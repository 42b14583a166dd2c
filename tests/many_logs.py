"""Logs in great number, the same ones each time."""

import random
from itertools import combinations, product


def all_logs(steps, longest, most):
    """Every choice of at most so many rows, of all rows up to that length."""
    every = [row for length in range(longest + 1) for row in product(range(steps), repeat=length)]
    return [log for count in range(most + 1) for log in combinations(every, count)]


def logs_of_any_rows(count):
    source = random.Random(1)
    logs = []
    for unused in range(count):
        steps, longest = source.randint(1, 6), source.randint(0, 8)
        logs.append([
            tuple(source.randrange(steps) for place in range(source.randint(0, longest)))
            for number in range(source.randint(0, 8))])
    return logs


def logs_of_cases(count):
    """Rows that go together reach the earlier rules more often than any rows do."""
    source = random.Random(2)
    logs = []
    for unused in range(count):
        steps = source.sample(range(6), source.randint(1, 6))
        process = some_process(source, steps)
        cases = [some_case(source, process) for number in range(source.randint(1, 8))]
        logs.append([case for case in cases if len(case) <= 8])
    return logs


def some_process(source, steps):
    if len(steps) == 1:
        kind = source.choice("step step step perhaps again".split())
        return (kind, steps[0])
    place = source.randint(1, len(steps) - 1)
    kind = source.choice("row either side side rounds rounds".split())
    return (kind, some_process(source, steps[:place]), some_process(source, steps[place:]))


def named(process):
    """A process in numbers, as some_case takes it."""
    name = ("step", "nothing", "row", "either", "side", "rounds")[process[0]]
    if name in ("step", "nothing"):
        return (name,) + process[1:]
    return (name, named(process[1]), named(process[2]))


def some_case(source, process):
    kind = process[0]
    if kind == "nothing":
        return ()
    if kind == "step":
        return (process[1],)
    if kind == "perhaps":
        return (process[1],) * source.randint(0, 1)
    if kind == "again":
        return (process[1],) * source.randint(1, 2)
    if kind == "either":
        return some_case(source, source.choice(process[1:]))
    case = some_case(source, process[1])
    if kind == "row":
        return case + some_case(source, process[2])
    if kind == "side":
        return mixed(source, case, some_case(source, process[2]))
    while source.randint(0, 2) == 0:
        case += some_case(source, process[2]) + some_case(source, process[1])
    return case


def near(source, steps):
    """A row that is like this one but for one small change."""
    place, other = source.randint(0, len(steps)), source.randrange(6)
    changed = [
        steps[:place] + (other,) + steps[place:],
        steps[:place] + steps[place + 1:],
        steps[:place] + (other,) + steps[place + 1:],
        steps[:place] + steps[place:place + 2][::-1] + steps[place + 2:],
        steps[place:] + steps[:place],
        steps + steps]
    return source.choice(changed)


def mixed(source, first, second):
    turns = [True] * len(first) + [False] * len(second)
    source.shuffle(turns)
    ours, theirs = iter(first), iter(second)
    return tuple(next(ours) if turn else next(theirs) for turn in turns)
