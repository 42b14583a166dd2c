"""Calls and answers as the tests write them, and what a case of a process is."""

from functools import lru_cache

from foundprocess.logs import answers

BEGINS = [0]
FIND = [3]
FOLLOWS = [5]
CUTS = [6]


def row(*steps):
    return [1, len(steps)] + list(steps)


def drop(which):
    return [2, which]


def takes(*steps):
    return [4, len(steps)] + list(steps)


def rows(log):
    return [row(*steps) for steps in log]


def line(calls):
    return [number for call in calls for number in call]


def apart(numbers):
    """The answers of a line, one list for each call."""
    parts = []
    place = 0
    while place < len(numbers):
        count = numbers[place]
        part = numbers[place + 1:place + 1 + count]
        if count < 1 or len(part) != count:
            raise AssertionError(f"no count stands at {place} of {numbers}")
        parts.append(part)
        place += 1 + count
    return parts


def ask(*calls):
    given = apart(answers(line(calls)))
    if len(given) != len(calls):
        raise AssertionError(f"{len(calls)} calls, but {len(given)} answers")
    return given


def found(*log):
    """What find answers of this log."""
    return ask(*rows(log), FIND)[-1]


def taken(log, asked):
    """What takes answers of this log for each of the rows, as many as fit in a line at a time."""
    numbers = []
    for start in range(0, len(asked), 50):
        calls = [takes(*steps) for steps in asked[start:start + 50]]
        for answer in ask(*rows(log), *calls)[len(log):]:
            if len(answer) != 1:
                raise AssertionError(f"takes answers one number, not {answer}")
            numbers += answer
    return numbers


class Watched(list):
    """A list that tells when it's changed, even if it's changed back."""

    def refuse(self, *ignored, **ignored_too):
        raise AssertionError("what was handed in is changed")

    append = clear = extend = insert = pop = remove = reverse = sort = refuse
    __setitem__ = __delitem__ = __iadd__ = __imul__ = refuse


def process_at(numbers, place):
    """The process that stands there, as a tuple, and where it ends."""
    kind = numbers[place]
    if kind == 0:
        return (0, numbers[place + 1]), place + 2
    if kind == 1:
        return (1,), place + 1
    if kind not in (2, 3, 4, 5):
        raise AssertionError(f"no process begins with {kind}")
    first, place = process_at(numbers, place + 1)
    second, place = process_at(numbers, place)
    return (kind, first, second), place


def parsed(numbers):
    process, end = process_at(numbers, 0)
    if end != len(numbers):
        raise AssertionError(f"more than one process: {numbers}")
    return process


def processes_in(process):
    if process[0] in (0, 1):
        return [process]
    return [process] + processes_in(process[1]) + processes_in(process[2])


@lru_cache(maxsize=None)
def is_case(process, steps):
    """Whether this tuple of steps is a case, by trying each way to cut it."""
    kind = process[0]
    if kind == 0:
        return steps == (process[1],)
    if kind == 1:
        return steps == ()
    first, second = process[1:]
    places = range(len(steps) + 1)
    if kind == 2:
        return any(is_case(first, steps[:k]) and is_case(second, steps[k:]) for k in places)
    if kind == 3:
        return is_case(first, steps) or is_case(second, steps)
    if kind == 4:
        return any(is_case(first, ours) and is_case(second, theirs) for ours, theirs in splits(steps))
    if is_case(first, steps):
        return True
    return any(
        is_case(first, steps[:k]) and is_case(second, steps[k:m]) and is_case(process, steps[m:])
        for k in places[1:] for m in places[k:])


@lru_cache(maxsize=None)
def splits(steps):
    if not steps:
        return [((), ())]
    rest = splits(steps[1:])
    return [(steps[:1] + a, b) for a, b in rest] + [(a, steps[:1] + b) for a, b in rest]
