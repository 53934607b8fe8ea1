"""Boards: the groups of a sheet's fields, and which sheets fill another one."""

from bedsheet.errors import NoSheet


def row_fields(size, row):
    return [row * size + column for column in range(size)]


def column_fields(size, column):
    return [row * size + column for row in range(size)]


def box_fields(high, wide, box):
    size = high * wide
    # A band has `high` boxes side by side, since each takes `wide` of the size's columns.
    top = box // high * high
    left = box % high * wide
    fields = []
    for row in range(top, top + high):
        for column in range(left, left + wide):
            fields.append(row * size + column)
    return fields


def groups_of(high, wide):
    size = high * wide
    rows = [row_fields(size, row) for row in range(size)]
    columns = [column_fields(size, column) for column in range(size)]
    boxes = [box_fields(high, wide, box) for box in range(size)]
    return rows + columns + boxes


def refuse_no_sheet(high, wide, sheet):
    size = high * wide
    if len(sheet) != size * size:
        raise NoSheet("a sheet has one number for each field")
    for number in sheet:
        if number < 0 or number > size:
            raise NoSheet("a sheet has numbers from nought up to the size")


def keeps_numbers(sheet, filled):
    for number, other in zip(sheet, filled):
        if number != 0 and number != other:
            return False
    return True


def has_twice(group, filled):
    numbers = [filled[field] for field in group]
    return len(set(numbers)) < len(numbers)


def fills(high, wide, sheet, filled):
    # Both are refused ahead of any answer, so that a False never hides a list that is no sheet.
    refuse_no_sheet(high, wide, sheet)
    refuse_no_sheet(high, wide, filled)
    if 0 in filled or not keeps_numbers(sheet, filled):
        return False
    for group in groups_of(high, wide):
        if has_twice(group, filled):
            return False
    return True
