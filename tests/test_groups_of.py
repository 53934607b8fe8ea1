"""Points 2 and 4: the groups, their order and their fields."""

import unittest

from bedsheet.boards import groups_of
from tests.plain import BEYOND, SHAPES


def box_of_field(high, wide, field):
    row, column = divmod(field, high * wide)
    return row // high * high + column // wide


class GroupsOf(unittest.TestCase):
    def test_written_out(self):
        self.assertEqual(groups_of(1, 1), [[0], [0], [0]])
        rows = [[0, 1, 2], [3, 4, 5], [6, 7, 8]]
        columns = [[0, 3, 6], [1, 4, 7], [2, 5, 8]]
        self.assertEqual(groups_of(1, 3), rows + columns + rows)
        self.assertEqual(groups_of(3, 1), rows + columns + columns)
        self.assertEqual(groups_of(2, 2), [
            [0, 1, 2, 3], [4, 5, 6, 7], [8, 9, 10, 11], [12, 13, 14, 15],
            [0, 4, 8, 12], [1, 5, 9, 13], [2, 6, 10, 14], [3, 7, 11, 15],
            [0, 1, 4, 5], [2, 3, 6, 7], [8, 9, 12, 13], [10, 11, 14, 15],
        ])

    def test_boxes_that_are_not_square(self):
        self.assertEqual(groups_of(2, 3)[12:], [
            [0, 1, 2, 6, 7, 8], [3, 4, 5, 9, 10, 11],
            [12, 13, 14, 18, 19, 20], [15, 16, 17, 21, 22, 23],
            [24, 25, 26, 30, 31, 32], [27, 28, 29, 33, 34, 35],
        ])
        self.assertEqual(groups_of(3, 2)[12:], [
            [0, 1, 6, 7, 12, 13], [2, 3, 8, 9, 14, 15], [4, 5, 10, 11, 16, 17],
            [18, 19, 24, 25, 30, 31], [20, 21, 26, 27, 32, 33], [22, 23, 28, 29, 34, 35],
        ])

    def test_how_many(self):
        for high, wide in SHAPES + BEYOND:
            with self.subTest(high=high, wide=wide):
                size = high * wide
                groups = groups_of(high, wide)
                self.assertEqual(len(groups), 3 * size)
                self.assertEqual([len(group) for group in groups], [size] * (3 * size))

    def test_every_group(self):
        for high, wide in SHAPES + BEYOND:
            size = high * wide
            groups = groups_of(high, wide)
            fields = range(size * size)
            for index in range(size):
                with self.subTest(high=high, wide=wide, index=index):
                    row = [field for field in fields if field // size == index]
                    column = [field for field in fields if field % size == index]
                    box = [field for field in fields if box_of_field(high, wide, field) == index]
                    self.assertEqual(groups[index], row)
                    self.assertEqual(groups[size + index], column)
                    self.assertEqual(groups[2 * size + index], box)

    def test_lists_of_whole_numbers(self):
        groups = groups_of(3, 2)
        self.assertIs(type(groups), list)
        self.assertEqual({type(group) for group in groups}, {list})
        self.assertEqual({type(field) for group in groups for field in group}, {int})

    def test_an_answer_that_is_changed_leaves_the_others(self):
        for high, wide in SHAPES:
            with self.subTest(high=high, wide=wide):
                first = groups_of(high, wide)
                kept = [list(group) for group in first]
                for group in first:
                    group.append(-1)
                self.assertEqual([group[:-1] for group in first], kept)
                self.assertEqual(groups_of(high, wide), kept)


if __name__ == "__main__":
    unittest.main()
