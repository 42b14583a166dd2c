"""The calls on a log, and the process that is found of it.

A log is a list of rows, a row a list of steps. A process is a tuple: what it
is first, then its step or its two processes, just as it stands in numbers.
"""

STEP = 0
NOTHING = 1
IN_A_ROW = 2
ONE_OF_TWO = 3
SIDE_BY_SIDE = 4
ROUNDS = 5

BEGINS_CALL = 0
ROW_CALL = 1
DROP_CALL = 2
FIND_CALL = 3
TAKES_CALL = 4
FOLLOWS_CALL = 5

HIGHEST_STEP = 5
MOST_STEPS_IN_A_ROW = 8
MOST_ROWS = 8

WRONG_STEPS = -1
NO_SUCH_ROW = -2
LOG_IS_FULL = -7


def steps_of(log):
    seen = {}
    for row in log:
        for step in row:
            seen[step] = True
    return sorted(seen)


def behind_pairs(log):
    pairs = {}
    for row in log:
        for place in range(1, len(row)):
            pairs[(row[place - 1], row[place])] = True
    return pairs


def leading_pairs(steps, pairs):
    leads = {}
    for pair in pairs:
        leads[pair] = True
    # The middle step must be the outermost loop: only then does one pass
    # through all three find the ways that go over several steps.
    for middle in steps:
        for first in steps:
            for last in steps:
                if (first, middle) in leads and (middle, last) in leads:
                    leads[(first, last)] = True
    return leads


def starts_of(log):
    return [row[0] for row in log]


def stops_of(log):
    return [row[-1] for row in log]


def touches(step, group, related):
    return any([related(step, other) or related(other, step) for other in group])


def groups_by(steps, related):
    groups = []
    for step in steps:
        joined = [step]
        apart = []
        for group in groups:
            if touches(step, group, related):
                joined = joined + group
            else:
                apart.append(group)
        groups = apart + [joined]
    # No two groups share a step, so this orders them by their lowest ones.
    return sorted([sorted(group) for group in groups])


def several_groups(steps, pairs):
    return groups_by(steps, lambda one, other: (one, other) in pairs)


def groups_ahead(group, groups, leads):
    # A step may lead to itself, which must not put a group behind itself.
    return len([other for other in groups if other != group and (other[0], group[0]) in leads])


def row_groups(steps, pairs):
    leads = leading_pairs(steps, pairs)
    groups = groups_by(steps, lambda one, other: ((one, other) in leads) == ((other, one) in leads))
    # Between two groups all steps lead the same way, so one step of each tells.
    return sorted(groups, key=lambda group: groups_ahead(group, groups, leads))


def is_full(group, starts, stops):
    return any([step in starts for step in group]) and any([step in stops for step in group])


def side_groups(log, steps, pairs):
    starts = starts_of(log)
    stops = stops_of(log)
    groups = groups_by(steps, lambda one, other: not ((one, other) in pairs and (other, one) in pairs))
    full = []
    left_over = []
    for group in groups:
        if is_full(group, starts, stops):
            full.append(group)
        else:
            left_over.extend(group)
    if not full:
        return [steps]
    return [sorted(full[0] + left_over)] + full[1:]


def is_between(group, core, starts, stops, pairs):
    entries = [one for one in core if any([(one, step) in pairs for step in group])]
    exits = [one for one in core if any([(step, one) in pairs for step in group])]
    if not entries or not exits:
        return False
    return all([one in stops for one in entries]) and all([one in starts for one in exits])


def body_of(log, steps, pairs):
    starts = starts_of(log)
    stops = stops_of(log)
    core = [step for step in steps if step in starts or step in stops]
    others = [step for step in steps if step not in core]
    body = core
    for group in several_groups(others, pairs):
        if not is_between(group, core, starts, stops, pairs):
            body = body + group
    return sorted(body)


def rows_beginning_in(log, group):
    return [row for row in log if row[0] in group]


def only_steps(row, group):
    return [step for step in row if step in group]


def rows_of_group(log, group):
    return [only_steps(row, group) for row in log]


def pieces_of(row, body):
    pieces = []
    for step in row:
        if pieces and (pieces[-1][-1] in body) == (step in body):
            pieces[-1].append(step)
        else:
            pieces.append([step])
    return pieces


def pieces_of_rows(log, body):
    pieces = []
    for row in log:
        pieces.extend(pieces_of(row, body))
    return pieces


def steps_in(process):
    if process[0] == STEP:
        return [process[1]]
    if process[0] == NOTHING:
        return []
    return steps_in(process[1]) + steps_in(process[2])


def is_case(process, row):
    kind = process[0]
    if kind == STEP:
        return row == [process[1]]
    if kind == NOTHING:
        return row == []
    if kind == ONE_OF_TWO:
        return is_case(process[1], row) or is_case(process[2], row)
    if kind == ROUNDS:
        return is_case_of_rounds(process[1], process[2], row)
    # No step stands twice in what is found, so each step of the row can only
    # belong to one of the two processes.
    own = steps_in(process[1])
    firsts = only_steps(row, own)
    others = [step for step in row if step not in own]
    if kind == IN_A_ROW and row != firsts + others:
        return False
    return is_case(process[1], firsts) and is_case(process[2], others)


def case_ends(process, row, start):
    return [end for end in range(start, len(row) + 1) if is_case(process, row[start:end])]


def is_case_of_rounds(first, second, row):
    # A case of the first has a step, so a place where one may begin is only
    # ever reached from places ahead of it: one walk along the row is enough.
    beginnings = {0: True}
    ends = {}
    for start in range(len(row)):
        if start in beginnings:
            for end in case_ends(first, row, start):
                ends[end] = True
                for place in case_ends(second, row, end):
                    beginnings[place] = True
    return len(row) in ends


def put_together(kind, processes):
    whole = processes[-1]
    for process in reversed(processes[:-1]):
        whole = (kind, process, whole)
    return whole


def found_of(log):
    # Each found_of within this one has fewer steps or no empty row left, so
    # they nest no deeper than twice the number of steps.
    filled = [row for row in log if row]
    if not filled:
        return (NOTHING,)
    if len(filled) < len(log):
        return (ONE_OF_TWO, (NOTHING,), found_of(filled))
    steps = steps_of(log)
    if len(steps) == 1:
        return found_of_one_step(log, steps[0])
    return found_by_groups(log, steps)


def found_of_one_step(log, step):
    if all([len(row) == 1 for row in log]):
        return (STEP, step)
    return (ROUNDS, (STEP, step), (NOTHING,))


def found_by_groups(log, steps):
    pairs = behind_pairs(log)
    groups = several_groups(steps, pairs)
    if len(groups) > 1:
        return put_together(ONE_OF_TWO, [found_of(rows_beginning_in(log, group)) for group in groups])
    groups = row_groups(steps, pairs)
    if len(groups) > 1:
        return put_together(IN_A_ROW, [found_of(rows_of_group(log, group)) for group in groups])
    groups = side_groups(log, steps, pairs)
    if len(groups) > 1:
        return put_together(SIDE_BY_SIDE, [found_of(rows_of_group(log, group)) for group in groups])
    return found_as_rounds(log, steps, pairs)


def found_as_rounds(log, steps, pairs):
    body = body_of(log, steps, pairs)
    pieces = pieces_of_rows(log, body)
    second_log = [piece for piece in pieces if piece[0] not in body]
    if second_log:
        first = found_of([piece for piece in pieces if piece[0] in body])
        if not is_case(first, []):
            return (ROUNDS, first, found_of(second_log))
    return (ROUNDS, put_together(ONE_OF_TWO, [(STEP, step) for step in steps]), (NOTHING,))


def is_leaf(process):
    return process[0] == STEP or process[0] == NOTHING


def parts_of(process):
    if is_leaf(process):
        return 1
    return 1 + parts_of(process[1]) + parts_of(process[2])


def numbers_of(process):
    if is_leaf(process):
        return list(process)
    return [process[0]] + numbers_of(process[1]) + numbers_of(process[2])


def counted(steps):
    return [len(steps)] + steps


def numbers_of_groups(groups):
    numbers = [len(groups)]
    for group in groups:
        numbers.extend(counted(group))
    return numbers


def steps_fit(steps):
    return len(steps) <= MOST_STEPS_IN_A_ROW and all([step <= HIGHEST_STEP for step in steps])


class House:
    def __init__(self):
        self.rows = []

    def begin(self):
        self.rows = []
        return [0]

    def add_row(self, steps):
        if not steps_fit(steps):
            return [WRONG_STEPS]
        if len(self.rows) >= MOST_ROWS:
            return [LOG_IS_FULL]
        self.rows.append(steps)
        return [len(self.rows) - 1]

    def drop_row(self, which):
        if which >= len(self.rows):
            return [NO_SUCH_ROW]
        self.rows.pop(which)
        return [len(self.rows)]

    def find_process(self):
        process = found_of(self.rows)
        return [parts_of(process)] + numbers_of(process)

    def take_steps(self, steps):
        if not steps_fit(steps):
            return [WRONG_STEPS]
        return [1 if is_case(found_of(self.rows), steps) else 0]

    def list_follows(self):
        steps = steps_of(self.rows)
        pairs = behind_pairs(self.rows)
        numbers = [len(steps)]
        for step in steps:
            numbers.append(step)
            numbers.extend(counted([other for other in steps if (step, other) in pairs]))
        return numbers

    def list_cuts(self):
        log = [row for row in self.rows if row]
        steps = steps_of(log)
        pairs = behind_pairs(log)
        numbers = [0]
        for groups in (several_groups(steps, pairs), row_groups(steps, pairs), side_groups(log, steps, pairs)):
            numbers.extend(numbers_of_groups(groups))
        return numbers + counted(body_of(log, steps, pairs))


def call_length(calls, place):
    if calls[place] == ROW_CALL or calls[place] == TAKES_CALL:
        return 2 + calls[place + 1]
    if calls[place] == DROP_CALL:
        return 2
    return 1


def answer_to(house, call):
    number = call[0]
    if number == BEGINS_CALL:
        return house.begin()
    if number == ROW_CALL:
        return house.add_row(call[2:])
    if number == DROP_CALL:
        return house.drop_row(call[1])
    if number == FIND_CALL:
        return house.find_process()
    if number == TAKES_CALL:
        return house.take_steps(call[2:])
    if number == FOLLOWS_CALL:
        return house.list_follows()
    # Only the calls 0 to 6 are handed in, so this one is cuts.
    return house.list_cuts()


def answers(calls):
    house = House()
    given = []
    place = 0
    while place < len(calls):
        length = call_length(calls, place)
        answer = answer_to(house, calls[place:place + length])
        given.append(len(answer))
        given.extend(answer)
        place += length
    return given
