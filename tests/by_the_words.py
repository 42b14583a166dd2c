"""The document's words written once more, as near to them as Python's sets
allow, to hold the program's answers against."""

from lines import is_case, processes_in


def right_behind(log):
    return {(a, b) for row in log for a, b in zip(row, row[1:])}


def leads(behind):
    known = set(behind)
    while True:
        more = {(a, d) for a, b in known for c, d in known if b == c} - known
        if not more:
            return known
        known |= more


def groups(steps, related):
    """Spreads out from the lowest step not yet in a group, again and again."""
    left = set(steps)
    result = []
    while left:
        group = {min(left)}
        while True:
            more = {s for s in left - group for t in group if related(s, t) or related(t, s)}
            if not more:
                break
            group |= more
        left -= group
        result.append(frozenset(group))
    return result


def kept(log, group):
    return {tuple(s for s in row if s in group) for row in log}


def one_of_several(log):
    behind = right_behind(log)
    return groups(steps_of(log), lambda a, b: (a, b) in behind)


def in_a_row(log):
    lead = leads(right_behind(log))
    unordered = groups(steps_of(log), lambda a, b: ((a, b) in lead) is ((b, a) in lead))
    ordered = []
    while unordered:
        first = [g for g in unordered
                 if all((a, b) in lead and (b, a) not in lead
                        for h in unordered if h != g for a in g for b in h)]
        if len(first) != 1:
            raise AssertionError(f"no one group is the first of {unordered}")
        ordered += first
        unordered.remove(first[0])
    return ordered


def side_by_side(log):
    behind = right_behind(log)
    starts, stops = {row[0] for row in log}, {row[-1] for row in log}
    every = groups(steps_of(log), lambda a, b: not ((a, b) in behind and (b, a) in behind))
    full = [g for g in every if g & starts and g & stops]
    if not full:
        return [frozenset(steps_of(log))]
    return [full[0].union(*[g for g in every if g not in full])] + full[1:]


def body(log):
    behind = right_behind(log)
    starts, stops = {row[0] for row in log}, {row[-1] for row in log}
    core = starts | stops
    result = set(core)
    for group in groups(set(steps_of(log)) - core, lambda a, b: (a, b) in behind):
        into = {a for a, b in behind if a in core and b in group}
        out = {b for a, b in behind if a in group and b in core}
        if not (into <= stops and out <= starts and into & stops and out & starts):
            result |= group
    return result


def cut(row, ours):
    """The row's parts: it is cut wherever one side is ours and the other not."""
    places = [k for k in range(1, len(row)) if (row[k - 1] in ours) != (row[k] in ours)]
    ends = [0] + places + [len(row)]
    return [row[a:b] for a, b in zip(ends, ends[1:])]


def steps_of(log):
    return sorted({s for row in log for s in row})


def has_empty(process):
    kind = process[0]
    if kind in (0, 1):
        return kind == 1
    first, second = [has_empty(p) for p in process[1:]]
    return {2: first and second, 3: first or second, 4: first and second, 5: first}[kind]


def chain(kind, processes):
    return processes[0] if len(processes) == 1 else (kind, processes[0], chain(kind, processes[1:]))


def find(log):
    log = {tuple(row) for row in log}
    steps = steps_of(log)
    if not steps:
        return (1,)
    if () in log:
        return (3, (1,), find(log - {()}))
    if len(steps) == 1:
        return (0, steps[0]) if log == {(steps[0],)} else (5, (0, steps[0]), (1,))
    if len(one_of_several(log)) > 1:
        return chain(3, [find({row for row in log if row[0] in g}) for g in one_of_several(log)])
    if len(in_a_row(log)) > 1:
        return chain(2, [find(kept(log, g)) for g in in_a_row(log)])
    if len(side_by_side(log)) > 1:
        return chain(4, [find(kept(log, g)) for g in side_by_side(log)])
    ours = body(log)
    parts = [part for row in log for part in cut(row, ours)]
    second = {part for part in parts if part[0] not in ours}
    if second:
        first = find({part for part in parts if part[0] in ours})
        if not has_empty(first):
            return (5, first, find(second))
    return (5, chain(3, [(0, s) for s in steps]), (1,))


def numbers(process):
    if process[0] in (0, 1):
        return list(process)
    return [process[0]] + numbers(process[1]) + numbers(process[2])


def counted(steps):
    return [len(steps)] + sorted(steps)


def follows(log):
    behind = right_behind(log)
    answer = [len(steps_of(log))]
    for step in steps_of(log):
        answer += [step] + counted({b for a, b in behind if a == step})
    return answer


def cuts(log):
    log = {tuple(row) for row in log} - {()}
    answer = [0]
    for cut_into in (one_of_several, in_a_row, side_by_side):
        answer.append(len(cut_into(log)))
        for group in cut_into(log):
            answer += counted(group)
    return answer + counted(body(log))


def cases(process, longest):
    """All cases of at most that many steps, put together out of those of its processes."""
    kind = process[0]
    if kind == 0:
        return {process[1:]} if longest else set()
    if kind == 1:
        return {()}
    first, second = [cases(p, longest) for p in process[1:]]
    if kind == 2:
        return {a + b for a in first for b in second if len(a + b) <= longest}
    if kind == 3:
        return first | second
    if kind == 4:
        return {c for a in first for b in second if len(a + b) <= longest for c in put_into(a, b)}
    known = newest = first
    while newest:
        newest = {a + b + c for a in first for b in second for c in newest if len(a + b + c) <= longest} - known
        known = known | newest
    return known


def put_into(first, second):
    """Each way to put two rows into one another that keeps the order in each."""
    if not first or not second:
        return {first + second}
    return {first[:1] + rest for rest in put_into(first[1:], second)} | {
        second[:1] + rest for rest in put_into(first, second[1:])}


def answers(calls):
    """The answers to calls as lines.py writes them, one list for each call."""
    log = ()
    given = []
    for call in calls:
        answer, log = answer_and_log(log, call)
        given.append(answer)
    return given


def answer_and_log(log, call):
    number, steps = call[0], tuple(call[2:])
    if number == 0:
        return [0], ()
    if number in (1, 4) and (len(steps) > 8 or set(steps) - set(range(6))):
        return [-1], log
    if number == 1:
        return ([-7], log) if len(log) == 8 else ([len(log)], log + (steps,))
    if number == 2:
        left = tuple(row for which, row in enumerate(log) if which != call[1])
        return ([-2], log) if left == log else ([len(left)], left)
    if number == 3:
        return [len(processes_in(find(log)))] + numbers(find(log)), log
    if number == 4:
        return [int(is_case(find(log), steps))], log
    return (follows(log) if number == 5 else cuts(log)), log
