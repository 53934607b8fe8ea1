"""Reasons: which steps follow from a sheet, which clashes are there, and how far steps alone lead."""

from bedsheet.errors import NoStep
from bedsheet.standing import State


def is_group(state, group):
    return 0 <= group < len(state.groups)


def homes_in(state, group):
    homes = {}
    for field in state.groups[group]:
        for number in state.can.get(field, []):
            homes.setdefault(number, []).append(field)
    return homes


def step_follows(state, step):
    if step[0] == "field":
        return state.can.get(step[1]) == [step[2]]
    # Where a field of the group can have the number, the group hasn't it yet: its fields are beside one another.
    return is_group(state, step[3]) and homes_in(state, step[3]).get(step[2]) == [step[1]]


def all_follow(state, steps):
    for step in steps:
        if not step_follows(state, step):
            return False
        state.put(step[1], step[2])
    return True


def stuck_fields(state):
    return [place for place, numbers in state.can.items() if numbers == []]


def homeless_numbers(state, group):
    found = {}
    for field in state.groups[group]:
        found[state.numbers[field]] = True
        for number in state.can.get(field, []):
            found[number] = True
    return [number for number in range(1, state.high * state.wide + 1) if number not in found]


def twice_numbers(state, group):
    numbers = [state.numbers[field] for field in state.groups[group]]
    return [number for number in range(1, state.high * state.wide + 1) if numbers.count(number) > 1]


def clash_is_there(state, clash):
    if clash[0] == "field":
        return clash[1] in stuck_fields(state)
    if not is_group(state, clash[1]):
        return False
    if clash[0] == "group":
        return clash[2] in homeless_numbers(state, clash[1])
    return clash[2] in twice_numbers(state, clash[1])


def first_in_groups(state, kind, numbers_in):
    for group in range(len(state.groups)):
        numbers = numbers_in(state, group)
        if numbers != []:
            return (kind, group, numbers[0])
    return None


def first_twice(state):
    return first_in_groups(state, "twice", twice_numbers)


def first_dead_end(state):
    fields = stuck_fields(state)
    if fields != []:
        return ("field", fields[0])
    return first_in_groups(state, "group", homeless_numbers)


def first_step(state):
    for place, numbers in state.can.items():
        if len(numbers) == 1:
            return ("field", place, numbers[0])
    for group in range(len(state.groups)):
        for number, fields in homes_in(state, group).items():
            if len(fields) == 1:
                return ("group", fields[0], number, group)
    return None


def first_clash(state):
    twice = first_twice(state)
    if twice is not None:
        return twice
    return first_dead_end(state)


def take_steps(state):
    steps = []
    clash = first_clash(state)
    while clash is None:
        step = first_step(state)
        if step is None:
            break
        state.put(step[1], step[2])
        steps.append(step)
        # No step puts a number beside itself, so what stands twice was there ahead of all steps.
        clash = first_dead_end(state)
    return (steps, clash)


def follows(high, wide, sheet, step):
    return step_follows(State(high, wide, sheet), step)


def done(high, wide, sheet, steps):
    state = State(high, wide, sheet)
    if not all_follow(state, steps):
        raise NoStep("a step doesn't follow from what stands before it")
    return state.numbers


def steps_of(high, wide, sheet):
    return take_steps(State(high, wide, sheet))
