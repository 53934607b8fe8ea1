"""What the tests share: sheets to ask about, and the document's points looked for in the plainest way.

Nothing here asks the program, so that the program and the points can be held against one another.
"""

import random
import unittest

from bedsheet.errors import NoSheet, NoStep, SheetError

SHAPES = [(high, wide) for high in range(1, 4) for wide in range(1, 4)]
# Point 1 bounds boxes at three by three, and nothing is refused for lying somewhat beyond.
BEYOND = [(4, 4), (4, 2), (2, 5), (1, 7), (5, 1)]
LONG = 10 ** 32 - 1
FAR = (10 ** 12, LONG, -LONG, 10 ** 31, -(10 ** 31))


# Lists of numbers, changed into others

def full_sheet(high, wide):
    size = high * wide
    return [(wide * (row % high) + row // high + column) % size + 1 for row in range(size) for column in range(size)]


def renamed(filled, size):
    return [number % size + 1 for number in filled]


def with_at(numbers, place, number):
    return numbers[:place] + [number] + numbers[place + 1:]


def swapped(numbers, one, other):
    return with_at(with_at(numbers, one, numbers[other]), other, numbers[one])


def without(numbers, places):
    return [0 if place in places else number for place, number in enumerate(numbers)]


def from_text(text):
    return [int(sign) for sign in "".join(text.split()).replace(".", "0")]


# Sheets of three by three with forty-five empty fields each

FILLED = from_text("""
    534678912 672195348 198342567
    859761423 426853791 713924856
    961537284 287419635 345286179
""")
BY_STEPS = from_text("""
    53..78.12 6..195... .98....6.
    8...6...3 4..8.3..1 7...2..56
    .6....28. ...419..5 3...8.179
""")
BY_TRYING = from_text("""
    ...5862.3 ....976.4 ...34.175
    .......48 .94.65.2. 73...4...
    ..1.59.3. 5..6...1. 2..431.5.
""")
NONE_BY_TRYING = from_text("""
    43.....18 81....96. .69..1.3.
    ...1.98.6 628.....1 19..8..75
    2...6.7.9 78..1.... 9...7.18.
""")
NONE_BEHIND_MANY_STEPS = from_text("""
    ....9.4.. 4..2.8.9. 1....4.7.
    928.....4 ...82.1.. ....479..
    3947.2615 6...5..29 8.2916...
""")
SEVERAL = [0] * 45 + FILLED[45:]
LARGE = [BY_STEPS, BY_TRYING, NONE_BY_TRYING, NONE_BEHIND_MANY_STEPS, SEVERAL]


# Points 2 to 5

def groups_with(high, wide, place):
    size = high * wide
    row, column = divmod(place, size)
    return [row, size + column, 2 * size + row // high * high + column // wide]


def plain_groups(high, wide):
    size = high * wide
    groups = [[] for group in range(3 * size)]
    for place in range(size * size):
        for group in groups_with(high, wide, place):
            groups[group].append(place)
    return groups


GROUPS = {shape: plain_groups(*shape) for shape in SHAPES + BEYOND}


def plain_fills(high, wide, sheet, filled):
    numbers = list(range(1, high * wide + 1))
    return all(number in (0, other) for number, other in zip(sheet, filled, strict=True)) and all(
        sorted(filled[field] for field in group) == numbers for group in GROUPS[high, wide]
    )


# Points 6 and 7

def plain_can(high, wide, sheet):
    groups = GROUPS[high, wide]
    can = {}
    for place, standing in enumerate(sheet):
        if standing == 0:
            seen = {sheet[field] for group in groups_with(high, wide, place) for field in groups[group]}
            can[place] = [number for number in range(1, high * wide + 1) if number not in seen]
    return can


def every_step(high, wide, sheet):
    can = plain_can(high, wide, sheet)
    steps = [("field", place, numbers[0]) for place, numbers in can.items() if len(numbers) == 1]
    for index, group in enumerate(GROUPS[high, wide]):
        for number in range(1, high * wide + 1):
            homes = [field for field in group if number in can.get(field, [])]
            if len(homes) == 1 and all(sheet[field] != number for field in group):
                steps.append(("group", homes[0], number, index))
    return steps


def every_clash(high, wide, sheet):
    can = plain_can(high, wide, sheet)
    clashes = [("field", place) for place, numbers in can.items() if not numbers]
    for index, group in enumerate(GROUPS[high, wide]):
        standing = [sheet[field] for field in group]
        for number in range(1, high * wide + 1):
            if standing.count(number) > 1:
                clashes.append(("twice", index, number))
            if standing.count(number) == 0 and not any(number in can.get(field, []) for field in group):
                clashes.append(("group", index, number))
    return clashes


def has_twice(high, wide, sheet):
    return any(clash[0] == "twice" for clash in every_clash(high, wide, sheet))


def behind_steps(high, wide, sheet, steps):
    # None where a step doesn't follow from what stands before it.
    for step in steps:
        if step not in every_step(high, wide, sheet):
            return None
        sheet = with_at(sheet, step[1], step[2])
    return sheet


# Points 8 and 9

def plain_ends(high, wide, sheet, tree):
    # The ends with the sheets they come behind, from the first to the last; None where a step or an end is wrong.
    steps, end = tree
    sheet = behind_steps(high, wide, sheet, steps)
    if sheet is None:
        return None
    if end[0] == "full" and 0 in sheet:
        return None
    if end[0] == "clash" and end[1] not in every_clash(high, wide, sheet):
        return None
    if end[0] != "try":
        return [(end, sheet)]
    place, branches = end[1:]
    numbers = plain_can(high, wide, sheet).get(place, [])
    if not numbers or [number for number, branch in branches] != numbers:
        return None
    ends = []
    for number, branch in branches:
        found = plain_ends(high, wide, with_at(sheet, place, number), branch)
        if found is None:
            return None
        ends += found
    return ends


def plain_stands(high, wide, sheet, tree):
    if has_twice(high, wide, sheet) and (tree[0] or tree[1][0] != "clash"):
        return False
    ends = plain_ends(high, wide, sheet, tree)
    if ends is None:
        return False
    kinds = [end[0] for end, behind in ends]
    return "left" not in kinds or kinds.count("full") >= 2


# Searching

def ways(high, wide, sheet, most):
    # The sheets that fill this one, up to so many of them, by trying alone.
    if has_twice(high, wide, sheet):
        return []
    can = plain_can(high, wide, sheet)
    if not can:
        return [sheet]
    place = min(can, key=lambda field: len(can[field]))
    found = []
    for number in can[place]:
        if len(found) < most:
            found += ways(high, wide, with_at(sheet, place, number), most - len(found))
    return found


def stirred_full(high, wide, source):
    # Rows change within bands, columns within stacks of boxes, and numbers change their names.
    size = high * wide
    rows = stirred_lines(size, high, source)
    columns = stirred_lines(size, wide, source)
    names = source.sample(range(1, size + 1), size)
    full = full_sheet(high, wide)
    return [names[full[row * size + column] - 1] for row in rows for column in columns]


def stirred_lines(size, thick, source):
    lines = []
    for start in source.sample(range(0, size, thick), size // thick):
        lines += source.sample(range(start, start + thick), thick)
    return lines


def stirred_sheets(high, wide, how_many, seed):
    # Full ones with some numbers taken out, up to forty-five, and in two of three some others changed at random.
    source = random.Random(f"{high} {wide} {seed}")
    size = high * wide
    fields = size * size
    sheets = []
    for index in range(how_many):
        sheet = stirred_full(high, wide, source)
        empty = source.randint(0, min(45, fields)) if index % 2 else min(45, fields * (2 + index % 3) // 5)
        for place in source.sample(range(fields), empty):
            sheet[place] = 0
        for change in range(index % 3):
            place = source.randrange(fields)
            if sheet[place]:
                sheet[place] = source.randint(1, size)
        sheets.append(sheet)
    return sheets


# Sheets with a number twice: in a row alone, in a column alone, in a box alone, and where groups share fields

def twice_sheets(high, wide):
    size = high * wide
    fields = size * size
    others = [size - 1, size * (size - 1)] if size > 1 else []
    if high > 1 and wide > 1:
        others.append(size + 1)
    return [with_at(with_at([0] * fields, 0, size), other, size) for other in others]


class Case(unittest.TestCase):
    def asked(self, function, *handed):
        before = repr(handed)
        try:
            return function(*handed)
        finally:
            self.assertEqual(repr(handed), before)

    def answers(self, expected, function, *handed):
        self.assertIs(self.asked(function, *handed), expected)

    def refused(self, error, function, *handed):
        self.assertIn(error, (NoSheet, NoStep))
        for base in (error, SheetError, ValueError):
            with self.assertRaises(base) as caught:
                self.asked(function, *handed)
            self.assertIs(type(caught.exception), error)
