import unittest

from exactmatrices.desk import part
from reckoning import BOUND, Source, answered, read

# 1 2 3 4 over 5 6 7 8 over 9 10 11 12
WHOLE = [3, 4, 1, 1, 2, 1, 3, 1, 4, 1, 5, 1, 6, 1, 7, 1, 8, 1, 9, 1, 10, 1, 11, 1, 12, 1]
# 1/2 -1/3 over 0 3/4, with terms that aren't the lowest
HALVES = [2, 2, 2, 4, -3, 9, 0, 17, 6, 8]
FAR = 2 ** 64


class Parts(unittest.TestCase):

    def test_the_whole(self):
        self.assertEqual(part(0, 3, 0, 4, WHOLE), [0] + WHOLE)

    def test_one_entry(self):
        for row in range(3):
            for column in range(4):
                self.assertEqual(part(row, 1, column, 1, WHOLE), [0, 1, 1, 4 * row + column + 1, 1])
        self.assertEqual(part(0, 1, 0, 1, [1, 1, -4, 6]), [0, 1, 1, -2, 3])

    def test_at_the_edges(self):
        self.assertEqual(part(0, 1, 0, 4, WHOLE), [0, 1, 4, 1, 1, 2, 1, 3, 1, 4, 1])
        self.assertEqual(part(2, 1, 0, 4, WHOLE), [0, 1, 4, 9, 1, 10, 1, 11, 1, 12, 1])
        self.assertEqual(part(0, 3, 0, 1, WHOLE), [0, 3, 1, 1, 1, 5, 1, 9, 1])
        self.assertEqual(part(0, 3, 3, 1, WHOLE), [0, 3, 1, 4, 1, 8, 1, 12, 1])
        self.assertEqual(part(1, 2, 2, 2, WHOLE), [0, 2, 2, 7, 1, 8, 1, 11, 1, 12, 1])

    def test_within(self):
        self.assertEqual(part(1, 1, 1, 2, WHOLE), [0, 1, 2, 6, 1, 7, 1])
        self.assertEqual(part(0, 2, 1, 2, WHOLE), [0, 2, 2, 2, 1, 3, 1, 6, 1, 7, 1])

    def test_lowest_terms(self):
        self.assertEqual(part(0, 2, 0, 2, HALVES), [0, 2, 2, 1, 2, -1, 3, 0, 1, 3, 4])
        self.assertEqual(part(1, 1, 0, 2, HALVES), [0, 1, 2, 0, 1, 3, 4])
        self.assertEqual(part(0, 2, 1, 1, HALVES), [0, 2, 1, -1, 3, 3, 4])

    def test_greatest_numbers(self):
        edge = BOUND - 1
        numbers = [1, 3, edge, 1, -edge, edge, -1, edge]
        self.assertEqual(part(0, 1, 0, 3, numbers), [0, 1, 3, edge, 1, -1, 1, -1, edge])
        self.assertEqual(part(0, 1, 2, 1, numbers), [0, 1, 1, -1, edge])

    def test_all_parts(self):
        source = Source(7)
        for numbers in (source.small(4, 3), source.great(2, 5), source.small(9, 2), source.small(1, 9)):
            rows = read(numbers)
            for row in range(len(rows)):
                for high in range(1, len(rows) - row + 1):
                    for column in range(len(rows[0])):
                        for wide in range(1, len(rows[0]) - column + 1):
                            expected = [chosen[column:column + wide] for chosen in rows[row:row + high]]
                            self.assertEqual(part(row, high, column, wide, numbers), answered(expected))

    def test_all_of_9_rows_and_columns(self):
        numbers = Source(8).great(9, 9)
        rows = read(numbers)
        self.assertEqual(part(0, 9, 0, 9, numbers), answered(rows))
        self.assertEqual(part(8, 1, 8, 1, numbers), answered([[rows[8][8]]]))


class Refusals(unittest.TestCase):

    def check(self, *places):
        for place in places:
            self.assertEqual(part(*place, WHOLE), [-1], place)

    def test_row_below_0(self):
        self.check((-1, 1, 0, 1), (-1, 2, 0, 4), (-3, 3, 0, 4), (-FAR, 1, 0, 1), (-FAR, FAR, 0, 1))

    def test_column_below_0(self):
        self.check((0, 1, -1, 1), (0, 3, -1, 2), (0, 3, -4, 4), (0, 1, -FAR, 1), (0, 1, -FAR, FAR))

    def test_rows_below_1(self):
        self.check((0, 0, 0, 1), (0, -1, 0, 1), (3, 0, 0, 1), (3, -1, 0, 1), (2, -2, 0, 4), (0, -FAR, 0, 1))
        self.check((FAR, -FAR, 0, 1))

    def test_columns_below_1(self):
        self.check((0, 1, 0, 0), (0, 1, 0, -1), (0, 1, 4, 0), (0, 1, 4, -1), (0, 3, 2, -2), (0, 1, 0, -FAR))
        self.check((0, 1, FAR, -FAR))

    def test_rows_beyond(self):
        self.check((0, 4, 0, 1), (1, 3, 0, 1), (2, 2, 0, 4), (3, 1, 0, 1), (4, 1, 0, 1), (0, FAR, 0, 1))
        self.check((FAR, 1, 0, 1), (FAR, FAR, 0, 1))

    def test_columns_beyond(self):
        self.check((0, 1, 0, 5), (0, 1, 1, 4), (0, 3, 3, 2), (0, 1, 4, 1), (0, 1, 5, 1), (0, 1, 0, FAR))
        self.check((0, 1, FAR, 1), (0, 1, FAR, FAR))

    def test_of_one_entry(self):
        for place in ((1, 1, 0, 1), (0, 1, 1, 1), (0, 2, 0, 1), (0, 1, 0, 2), (0, 0, 0, 0), (-1, 1, -1, 1)):
            self.assertEqual(part(*place, [1, 1, 5, 1]), [-1])

    def test_no_matrix_is_said_first(self):
        for place in ((0, 1, 0, 1), (-1, 1, 0, 1), (0, 0, 0, 1), (0, FAR, 0, -FAR)):
            self.assertEqual(part(*place, [1, 1, 5, 0]), [-6])
            self.assertEqual(part(*place, []), [-6])


if __name__ == "__main__":
    unittest.main()
