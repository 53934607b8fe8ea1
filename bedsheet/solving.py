"""Solving: filling a sheet by steps first and by trying last, and which trees of steps and tries stand."""

from bedsheet.reasons import all_follow, clash_is_there, first_twice, take_steps
from bedsheet.standing import State

ENOUGH = 2


def place_to_try(state):
    # The fewest numbers make the fewest branches.
    return min(list(state.can), key=lambda place: len(state.can[place]))


def grown_tree(state, found):
    if len(found) == ENOUGH:
        return ([], ("left",))
    steps, clash = take_steps(state)
    if clash is not None:
        return (steps, ("clash", clash))
    if state.can == {}:
        found.append(state.numbers)
        return (steps, ("full",))
    place = place_to_try(state)
    branches = []
    for number in state.can[place]:
        branches.append((number, grown_tree(state.behind(place, number), found)))
    return (steps, ("try", place, branches))


def solved(high, wide, sheet):
    found = []
    tree = grown_tree(State(high, wide, sheet), found)
    return (found, tree)


def branches_fit(state, place, branches):
    numbers = state.can.get(place, [])
    return numbers != [] and [number for number, tree in branches] == numbers


def end_holds(state, end):
    if end[0] == "full":
        return state.can == {}
    if end[0] == "clash":
        return clash_is_there(state, end[1])
    if end[0] == "try":
        return branches_fit(state, end[1], end[2])
    return True


def branch_states(state, end):
    if end[0] != "try":
        return []
    return [(state.behind(end[1], number), tree) for number, tree in end[2]]


def stands(high, wide, sheet, tree):
    start = State(high, wide, sheet)
    if first_twice(start) is not None:
        return tree[0] == [] and tree[1][0] == "clash" and end_holds(start, tree[1])
    ends = []
    # A list of what is still to be walked, since a tree may be as deep as a sheet has fields.
    waiting = [(start, tree)]
    while waiting != []:
        state, part = waiting.pop()
        if not all_follow(state, part[0]) or not end_holds(state, part[1]):
            return False
        ends.append(part[1][0])
        waiting.extend(branch_states(state, part[1]))
    return "left" not in ends or ends.count("full") >= ENOUGH
