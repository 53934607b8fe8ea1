"""Trees for the tests: built by the points alone, and changed into others that may stand or not."""

from tests.plain import FAR, every_clash, every_step, plain_can, with_at

FULL = ([], ("full",))
LEFT = ([], ("left",))


def clash_end(clash):
    return ([], ("clash", clash))


# Trees, changed into others

def paths(tree):
    found = [()]
    if tree[1][0] == "try":
        for index, (number, branch) in enumerate(tree[1][2]):
            found += [(index, *path) for path in paths(branch)]
    return found


def part_at(tree, path):
    for index in path:
        tree = tree[1][2][index][1]
    return tree


def with_part(tree, path, part):
    if not path:
        return part
    steps, (kind, place, branches) = tree
    number, branch = branches[path[0]]
    return (steps, (kind, place, with_at(branches, path[0], (number, with_part(branch, path[1:], part)))))


def before_part(sheet, tree, path):
    for index in path:
        for step in tree[0]:
            sheet = with_at(sheet, step[1], step[2])
        number, branch = tree[1][2][index]
        sheet = with_at(sheet, tree[1][1], number)
        tree = branch
    return sheet


def complete_tree(high, wide, sheet):
    # By trying alone, all numbers of each field, from the first one.
    can = plain_can(high, wide, sheet)
    if not can:
        return FULL
    stuck = [place for place in can if not can[place]]
    if stuck:
        return clash_end(("field", stuck[0]))
    place = min(can)
    return ([], ("try", place, [
        (number, complete_tree(high, wide, with_at(sheet, place, number))) for number in can[place]
    ]))


def some_tree(high, wide, sheet, source):
    # Steps and tries by chance, so that it tries where steps follow, and goes on where a clash is.
    steps = []
    while True:
        can = plain_can(high, wide, sheet)
        clashes = every_clash(high, wide, sheet)
        following = every_step(high, wide, sheet)
        places = [place for place in can if can[place]]
        if not can:
            return (steps, ("full",))
        if clashes and (source.random() < 0.5 or not places):
            return (steps, ("clash", source.choice(clashes)))
        if following and source.random() < 0.6:
            steps.append(source.choice(following))
            sheet = with_at(sheet, *steps[-1][1:3])
            continue
        place = source.choice(places)
        branches = [(number, some_tree(high, wide, with_at(sheet, place, number), source)) for number in can[place]]
        return (steps, ("try", place, branches))


def changed_steps(steps, size, source):
    lists = []
    for index, step in enumerate(steps):
        if len(steps) > 6 and source.random() < 0.6:
            continue
        lists.append(steps[:index] + steps[index + 1:])
        lists.append(steps[:index] + [step] + steps[index:])
        for at in range(1, len(step)):
            for value in (step[at] + 1, step[at] - 1, source.randrange(size * size), source.choice(FAR)):
                lists.append(with_at(steps, index, (*step[:at], value, *step[at + 1:])))
        if step[0] == "field":
            lists.append(with_at(steps, index, ("group", *step[1:], source.randrange(3 * size))))
        else:
            lists.append(with_at(steps, index, ("field", *step[1:3])))
        other = source.randrange(len(steps))
        lists.append(with_at(with_at(steps, index, steps[other]), other, step))
    lists.append(steps[::-1])
    return lists


def other_ends(size, clashes, can, source):
    ends = [("full",), ("left",), ("try", source.randrange(size * size), [])]
    ends += [("clash", clash) for clash in clashes[:6]]
    for number in (0, 1, size, source.choice(FAR)):
        for group in (0, source.randrange(3 * size), source.choice(FAR)):
            ends += [("clash", ("group", group, number)), ("clash", ("twice", group, number))]
        ends.append(("clash", ("field", number)))
    for place, numbers in can.items():
        if source.random() < 0.3:
            ends.append(("clash", ("field", place)))
            ends.append(("try", place, [(number, LEFT) for number in numbers]))
            ends.append(("try", place, [(number, FULL) for number in numbers]))
    return ends


def changed_tries(end, source):
    kind, place, branches = end
    lists = [
        branches[:-1], branches[1:], branches[::-1], branches + branches[-1:], branches[:1] + branches, [],
        branches + [(branches[-1][0] + 1, LEFT)], branches + [(10 ** 12, FULL)], [(0, LEFT)] + branches,
    ]
    for index, (number, branch) in enumerate(branches):
        for other in (number + 1, -number, 0, source.choice(FAR)):
            lists.append(with_at(branches, index, (other, branch)))
    turned = [branch for number, branch in branches][::-1]
    lists.append([(number, branch) for (number, old), branch in zip(branches, turned, strict=True)])
    ends = [(kind, place, others) for others in lists]
    return ends + [(kind, other, branches) for other in (place + 1, place - 1, -1, -place, source.choice(FAR))]


def changed_trees(high, wide, sheet, tree, source):
    trees = []
    every = paths(tree)
    for path in source.sample(every, min(6, len(every))):
        steps, end = part_at(tree, path)
        parts = [(others, end) for others in changed_steps(steps, high * wide, source)]
        behind = before_part(sheet, tree, path)
        for step in steps:
            behind = with_at(behind, step[1], step[2])
        clashes = every_clash(high, wide, behind)
        parts += [(steps, other) for other in other_ends(high * wide, clashes, plain_can(high, wide, behind), source)]
        if end[0] == "try":
            parts += [(steps, other) for other in changed_tries(end, source)]
        trees += [with_part(tree, path, part) for part in parts]
    return trees
