"""Promise 3."""

import contextlib
import inspect
import io
import itertools
import random
import unittest

from hiddencounts.tables import best, safe
from tests.reckoning import BIG, SIZES, UP_TO_12, Unchangeable, all_of, audits_by_counting, best_by_trying, best_of
from tests.reckoning import big_but, bits, hides_all_small, rank, safe_by_cuts, some_table, tables_not_as_told

ABOVE_12 = [(rows, cols) for rows, cols in SIZES if rows * cols > 12]


class Counted(unittest.TestCase):
    """The answers against a plain search over all hidings, with bounds by a plain count."""

    def check(self, rows, cols, cells, asked):
        """Hold the answers against the search, and give them back."""
        answers = audits_by_counting(rows, cols, cells)
        given = []
        for k, w in asked:
            given.append(best(rows, cols, k, w, cells))
            self.assertEqual(given[-1], best_by_trying(answers, k, w, cells), (rows, cols, k, w, cells))
        return given

    def test_every_2_by_2_with_counts_to_3(self):
        asked = list(itertools.product([2, 3, 4], [1, 2, 3, 4]))
        for cells in itertools.product(range(4), repeat=4):
            self.check(2, 2, list(cells), asked)

    def test_every_2_by_3_and_3_by_2_of_0_and_1(self):
        for cells in itertools.product(range(2), repeat=6):
            self.check(2, 3, list(cells), [(2, 1), (2, 2), (2, 3)])
            self.check(3, 2, list(cells), [(2, 1), (2, 2), (2, 3)])

    def test_every_size(self):
        source = random.Random(41)
        asked = list(itertools.product([2, 3, 4, 20], [1, 2, 3, 5]))
        given = []
        for rows, cols in UP_TO_12:
            for turn in range(12 if rows * cols <= 8 else 2):
                # Many 0 and few 1, so that much can be chosen, and little need be counted.
                cells = [source.choice([0, 0, 0, 1, 2, 2, 3]) for e in range(rows * cols)]
                given.extend(self.check(rows, cols, cells, asked))
        how_many = [answer[0] for answer in given]
        self.assertGreater(how_many.count(-33), 20)
        self.assertGreater(len([number for number in how_many if number >= 4]), 100)

    def test_3_by_4_and_4_by_3_with_one_small_count(self):
        cells = [0, 2, 0, 2, 2, 1, 0, 2, 0, 2, 2, 0]
        self.check(3, 4, cells, itertools.product([2], [1, 2, 3, 4, 5]))
        self.check(4, 3, cells, itertools.product([2], [1, 2, 3, 4, 5]))


class Searched(unittest.TestCase):
    """Great tables: the answers against a search by safe, and against the narrowest cuts."""

    def check(self, rows, cols, k, w, cells):
        given = best(rows, cols, k, w, cells)
        found = [hidden for hidden in range(1 << rows * cols) if safe(rows, cols, hidden, k, w, cells) == [0]]
        self.assertEqual(given, best_of(found, cells), (rows, cols, k, w, cells))
        return given

    def check_by_cuts(self, rows, cols, k, w, cells):
        """That what is told is safe, and all that would be told rather isn't; this without the program's bounds."""
        given = best(rows, cols, k, w, cells)
        others = [hidden for hidden in range(1 << rows * cols) if hides_all_small(hidden, k, cells)]
        if given != [-33]:
            self.assertEqual(given, [rank(given[1], cells)[0], given[1]])
            self.assertEqual(safe_by_cuts(rows, cols, given[1], k, w, cells), [0])
            others = [hidden for hidden in others if rank(hidden, cells) < rank(given[1], cells)]
        for hidden in others:
            self.assertNotEqual(safe_by_cuts(rows, cols, hidden, k, w, cells), [0], (rows, cols, k, w, cells))
        return given

    def test_every_size(self):
        source = random.Random(42)
        for rows, cols in UP_TO_12:
            for greatest in [5, 30, 200, 10000]:
                cells = some_table(source, rows, cols, greatest)
                cells[source.randrange(rows * cols)] = source.randint(1, 19)
                self.check(rows, cols, source.choice([5, 20]), source.choice([1, 10, 30, 100]), cells)

    def test_12_cells_with_few_small_counts_and_great_w(self):
        source = random.Random(43)
        for rows, cols in [(3, 4), (4, 3)]:
            for turn in range(4):
                cells = some_table(source, rows, cols, 60)
                self.check(rows, cols, 6, source.randint(50, 100), cells)

    def test_12_cells_of_which_10_must_be_hidden(self):
        # The 100 asked for are there only if all of the first row and the first column are hidden.
        cells = [1, 33, 33, 33, 50, 5000, 5000, 5000, 49, 5000, 5000, 5000]
        self.assertEqual(self.check(3, 4, 2, 100, cells), [10, 1023])

    def test_12_cells_with_many_small_counts_by_cuts(self):
        source = random.Random(44)
        given = []
        for rows, cols in [(3, 4), (4, 3)]:
            for w in [1, 5, 10, 20, 40, 100]:
                cells = [source.randint(1, 19) for e in range(12)]
                for e in source.sample(range(12), 4):
                    cells[e] = source.choice([0, 20, 300, 10000])
                given.append(self.check_by_cuts(rows, cols, 20, w, cells))
        self.assertIn([-33], given)
        self.assertGreater(len([answer for answer in given if answer != [-33]]), 4)

    def test_12_cells_up_to_10000_by_cuts(self):
        source = random.Random(45)
        for rows, cols in [(3, 4), (4, 3)]:
            for w in [1, 50, 100]:
                cells = [source.randint(20, 10000) for e in range(12)]
                for e in source.sample(range(12), 3):
                    cells[e] = source.randint(1, 19)
                self.assertNotEqual(self.check_by_cuts(rows, cols, 20, w, cells), [-33])

    def test_12_small_counts(self):
        self.assertEqual(best(3, 4, 20, 57, [19] * 12), [12, 4095])
        self.assertEqual(best(3, 4, 20, 58, [19] * 12), [-33])
        self.assertEqual(best(4, 3, 20, 57, [19] * 12), [12, 4095])
        self.assertEqual(best(4, 3, 20, 58, [19] * 12), [-33])

    def test_12_cells_where_the_least_sum_just_is_not_enough(self):
        # Cell 7 may lose its 1, and gain what cell 11 below it can lose: 100 in all, then 99.
        self.assertEqual(best(3, 4, 20, 100, [10000] * 7 + [1] + [10000] * 3 + [99]), [4, bits([4, 7, 8, 11])])
        self.assertEqual(best(3, 4, 20, 100, [10000] * 7 + [1] + [10000] * 3 + [98]), [4, bits([0, 3, 4, 7])])

    def test_12_cells_that_can_not_be_made_safe(self):
        # Above the last cell there is nothing to lose, so it may not gain; and then not even lose.
        self.assertEqual(best(3, 4, 20, 100, [10000, 10000, 10000, 0] * 2 + [10000, 10000, 10000, 19]), [-33])
        self.assertEqual(best(3, 4, 20, 100, [0] * 8 + [10000, 10000, 10000, 19]), [-33])


class Corners(unittest.TestCase):
    """The corners that the document names, with answers reckoned by hand."""

    def test_nothing_hidden_as_there_are_no_small_counts(self):
        for rows, cols in UP_TO_12:
            size = rows * cols
            for cells in [[0] * size, [20] * size, [10000] * size, [0, 20] * size, [10000, 0] * size]:
                self.assertEqual(best(rows, cols, 20, 100, cells[:size]), [0, 0])
                self.assertEqual(best(rows, cols, 2, 1, cells[:size]), [0, 0])
            self.assertEqual(best(rows, cols, 2, 1, [2] * size), [0, 0])

    def test_all_hidden(self):
        self.assertEqual(best(2, 2, 5, 3, [1, 2, 3, 4]), [4, 15])
        self.assertEqual(best(2, 2, 2, 3, [1, 2, 3, 4]), [4, 15])
        self.assertEqual(best(2, 2, 5, 4, [1, 2, 3, 4]), [-33])
        for rows, cols in UP_TO_12:
            size = rows * cols
            widest = min(rows, cols)
            self.assertEqual(best(rows, cols, 2, widest, [1] * size), [size, all_of(rows, cols)])
            self.assertEqual(best(rows, cols, 2, widest + 1, [1] * size), [-33])

    def test_two_in_one_row_alone(self):
        # By themselves they are known; it takes those beneath, too.
        cells = [1, 2, 30, 40, 50, 60]
        self.assertEqual(best(2, 3, 3, 1, cells), [4, bits([0, 1, 3, 4])])
        self.assertEqual(best(2, 3, 3, 3, cells), [4, bits([0, 1, 3, 4])])
        self.assertEqual(best(2, 3, 3, 4, cells), [6, 63])
        self.assertEqual(best(2, 3, 3, 33, cells), [6, 63])
        self.assertEqual(best(2, 3, 3, 34, cells), [-33])

    def test_two_in_one_column_alone(self):
        cells = [1, 40, 2, 50, 30, 60]
        self.assertEqual(best(3, 2, 3, 3, cells), [4, bits([0, 1, 2, 3])])
        self.assertEqual(best(3, 2, 3, 4, cells), [6, 63])

    def test_four_at_the_corners_one_of_them_0(self):
        cells = [0, 50, 5, 50, 50, 50, 4, 50, 7]
        self.assertEqual(best(3, 3, 20, 4, cells), [4, bits([0, 2, 6, 8])])
        self.assertGreater(best(3, 3, 20, 5, cells)[0], 4)

    def test_a_0_is_hidden_only_while_that_leaves_enough(self):
        cells = [5, 0, 50, 60, 70, 80]
        self.assertEqual(best(2, 3, 6, 5, cells), [4, bits([0, 1, 3, 4])])
        self.assertEqual(best(2, 3, 6, 6, cells), [4, bits([0, 2, 3, 5])])
        self.assertEqual(best(2, 3, 6, 55, cells), [4, bits([0, 2, 3, 5])])
        self.assertEqual(best(2, 3, 6, 56, cells), [-33])
        self.assertEqual(best(2, 3, 6, 65, [5, 10, 50, 60, 70, 80]), [6, 63])
        self.assertEqual(best(2, 3, 6, 66, [5, 10, 50, 60, 70, 80]), [-33])

    def test_ring_of_six(self):
        cells = [5, 2, 50, 50, 4, 3, 1, 50, 6]
        ring = bits([0, 1, 4, 5, 6, 8])
        self.assertEqual(best(3, 3, 20, 1, cells), [6, ring])
        self.assertEqual(best(3, 3, 20, 5, cells), [6, ring])
        self.assertGreater(best(3, 3, 20, 6, cells)[0], 6)

    def test_one_of_two_rings_of_six(self):
        # Each row and each column has a small count, so each needs two hidden cells.
        self.assertEqual(best(3, 3, 20, 2, [9, 50, 50, 50, 9, 50, 50, 50, 9]), [6, bits([0, 4, 8, 1, 5, 6])])
        self.assertEqual(best(3, 3, 20, 2, [9, 50, 50, 49, 9, 50, 50, 50, 9]), [6, bits([0, 4, 8, 2, 3, 7])])

    def test_counts_of_0_and_1(self):
        self.assertEqual(best(2, 2, 2, 1, [1, 0, 0, 1]), [4, 15])
        self.assertEqual(best(2, 2, 2, 1, [0, 1, 1, 0]), [4, 15])
        self.assertEqual(best(2, 2, 2, 2, [1, 0, 0, 1]), [-33])
        self.assertEqual(best(2, 2, 2, 1, [1, 1, 0, 0]), [-33])
        self.assertEqual(best(2, 3, 2, 1, [1, 0, 0, 0, 0, 1]), [4, bits([0, 2, 3, 5])])
        self.assertEqual(best(3, 3, 2, 1, [1, 0, 0, 0, 1, 0, 0, 0, 1]), [6, bits([0, 4, 8, 1, 5, 6])])

    def test_a_table_that_can_not_be_made_safe(self):
        for rows, cols in UP_TO_12:
            size = rows * cols
            for e in range(size):
                self.assertEqual(best(rows, cols, 2, 1, [0] * e + [1] + [0] * (size - 1 - e)), [-33])
        self.assertEqual(best(3, 3, 4, 1, [0, 0, 50, 0, 0, 50, 0, 0, 3]), [-33])

    def test_5_by_5(self):
        self.assertEqual(best(5, 5, 20, 100, [BIG] * 25), [-28])
        self.assertEqual(best(5, 5, 2, 1, [1] * 25), [-28])

    def test_3_by_4_goes_row_by_row(self):
        cells = [50, 2, 50, 4, 50, 50, 50, 50, 50, 10, 50, 12]
        self.assertEqual(best(3, 4, 20, 6, cells), [4, bits([1, 3, 9, 11])])
        # The same cells otherwise laid out make no rectangle.
        self.assertGreater(best(4, 3, 20, 6, cells)[0], 4)


class Ties(unittest.TestCase):
    """The fewest cells ahead of the least sum, that ahead of the least number."""

    def test_one_small_count_among_equal_ones(self):
        for rows, cols in UP_TO_12:
            for small in range(rows * cols):
                row, col = divmod(small, cols)
                # Of all rectangles with the cell, the one whose other row and column come first.
                other_row, other_col = (1 if row == 0 else 0), (1 if col == 0 else 0)
                corners = [r * cols + c for r in (row, other_row) for c in (col, other_col)]
                self.assertEqual(best(rows, cols, 20, 1, big_but(rows * cols, {small: 5})), [4, bits(corners)])

    def test_least_sum_ahead_of_least_number(self):
        for rows, cols in UP_TO_12:
            last = rows * cols - 1
            corners = [0, cols - 1, last - cols + 1, last]
            for cheaper in corners[1:]:
                cells = big_but(rows * cols, {0: 5})
                cells[cheaper] = BIG - 1
                # All rectangles with cell 0 and the cheaper one; the least number of these.
                if cheaper == cols - 1:
                    chosen = [0, cols - 1, cols, 2 * cols - 1]
                elif cheaper == last:
                    chosen = corners
                else:
                    chosen = [0, 1, cheaper, cheaper + 1]
                self.assertEqual(best(rows, cols, 20, 1, cells), [4, bits(chosen)])

    def test_each_rectangle_is_told_where_its_sum_is_least(self):
        for row, col in itertools.product([1, 2], [1, 2, 3]):
            corners = [0, col, row * 4, row * 4 + col]
            cells = big_but(12, {e: BIG - 1 for e in corners})
            cells[0] = 1
            self.assertEqual(best(3, 4, 20, 1, cells), [4, bits(corners)])

    def test_least_sum_by_1(self):
        self.assertEqual(best(2, 3, 2, 1, [1, 20, 31, 7, 40, 30]), [4, bits([0, 1, 3, 4])])
        self.assertEqual(best(2, 3, 2, 1, [1, 20, 30, 7, 40, 29]), [4, bits([0, 2, 3, 5])])

    def test_same_sum_of_different_counts(self):
        # 20 and 40, 30 and 30, 50 and 10: all 60, beside the 1 and the 7.
        self.assertEqual(best(2, 4, 2, 1, [1, 20, 30, 50, 7, 40, 30, 10]), [4, bits([0, 1, 4, 5])])
        self.assertEqual(best(2, 4, 2, 1, [1, 21, 30, 50, 7, 40, 30, 10]), [4, bits([0, 2, 4, 6])])
        self.assertEqual(best(2, 4, 2, 1, [1, 21, 31, 50, 7, 40, 30, 10]), [4, bits([0, 3, 4, 7])])

    def test_sum_is_of_counts_and_not_of_cells_numbers(self):
        self.assertEqual(best(2, 3, 2, 1, [30, 31, 1, 30, 29, 30]), [4, bits([0, 2, 3, 5])])
        self.assertEqual(best(2, 3, 2, 1, [30, 31, 1, 30, 28, 30]), [4, bits([1, 2, 4, 5])])

    def test_fewest_cells_ahead_of_least_sum(self):
        # Six around the middle would sum up to 90, the four to 20,010.
        cells = [5, 10000, 20, 10000, 5, 20, 20, 20, 20]
        self.assertEqual(best(3, 3, 20, 1, cells), [4, bits([0, 1, 3, 4])])

    def test_a_0_costs_a_cell(self):
        # To hide the 0s would add nothing to the sum, but they would be more cells.
        self.assertEqual(best(3, 3, 20, 4, [3, 5, 0, 4, 7, 0, 0, 0, 0]), [4, bits([0, 1, 3, 4])])

    def test_least_number_and_not_least_first_cell(self):
        # With one row more or less the greatest bit decides, not the least.
        self.assertEqual(best(3, 3, 20, 1, big_but(9, {8: 5})), [4, bits([0, 2, 6, 8])])
        self.assertEqual(best(3, 3, 20, 1, big_but(9, {4: 5})), [4, bits([0, 1, 3, 4])])
        self.assertEqual(best(3, 4, 20, 1, big_but(12, {11: 5})), [4, bits([0, 3, 8, 11])])

    def test_enough_ahead_of_sum(self):
        # The cheapest rectangle leaves 3 in all, the next 9, the dearest 16.
        cells = [1, 2, 8, 15, 60, 60, 60, 60]
        self.assertEqual(best(2, 4, 2, 3, cells), [4, bits([0, 1, 4, 5])])
        self.assertEqual(best(2, 4, 2, 4, cells), [4, bits([0, 2, 4, 6])])
        self.assertEqual(best(2, 4, 2, 9, cells), [4, bits([0, 2, 4, 6])])
        self.assertEqual(best(2, 4, 2, 10, cells), [4, bits([0, 3, 4, 7])])
        self.assertEqual(best(2, 4, 2, 16, cells), [4, bits([0, 3, 4, 7])])
        # Two together: 2 and 15, then 8 and 15.
        self.assertEqual(best(2, 4, 2, 17, cells), [6, bits([0, 1, 3, 4, 5, 7])])
        self.assertEqual(best(2, 4, 2, 18, cells), [6, bits([0, 1, 3, 4, 5, 7])])
        self.assertEqual(best(2, 4, 2, 19, cells), [6, bits([0, 2, 3, 4, 6, 7])])
        self.assertEqual(best(2, 4, 2, 25, cells), [8, 255])
        self.assertEqual(best(2, 4, 2, 26, cells), [8, 255])
        self.assertEqual(best(2, 4, 2, 27, cells), [-33])


class Edges(unittest.TestCase):
    """Just safe and just not, just small and just not."""

    def test_just_w_above_the_least(self):
        for w in range(1, 101):
            self.assertEqual(best(2, 2, 2, w, [1, w - 1, 500, 500]), [4, 15])
            if w < 100:
                self.assertEqual(best(2, 2, 2, w + 1, [1, w - 1, 500, 500]), [-33])

    def test_which_counts_are_small(self):
        for k in range(2, 21):
            self.assertEqual(best(2, 2, k, 1, [0, BIG, BIG, BIG]), [0, 0])
            self.assertEqual(best(2, 2, k, 1, [1, BIG, BIG, BIG]), [4, 15])
            self.assertEqual(best(2, 2, k, 1, [k - 1, BIG, BIG, BIG]), [4, 15])
            self.assertEqual(best(2, 2, k, 1, [k, BIG, BIG, BIG]), [0, 0])

    def test_small_counts_in_the_first_and_in_the_last_cell(self):
        for rows, cols in UP_TO_12:
            last = rows * cols - 1
            corners = [0, cols - 1, last - cols + 1, last]
            self.assertEqual(best(rows, cols, 6, 10, big_but(last + 1, {0: 5, last: 5})), [4, bits(corners)])


class Refused(unittest.TestCase):
    """What is answered by -22, by -28, by -33 alone, in which order, and what just isn't refused."""

    WRONG_K = [0, 1, 21, 22, 4294967295]
    WRONG_W = [0, 101, 102, 4294967295]

    def answered(self, number, rows, cols, k, w, cells):
        self.assertEqual(best(rows, cols, k, w, cells), [number], (rows, cols, k, w, cells))

    def test_tables_not_as_told(self):
        for rows, cols, cells in tables_not_as_told():
            for k, w in [(2, 1), (20, 100), (0, 1), (2, 0), (21, 101), (4294967295, 4294967295)]:
                self.answered(-22, rows, cols, k, w, cells)

    def test_k_and_w(self):
        for rows, cols in SIZES:
            size = rows * cols
            # No small counts, all small, and such as can't be made safe.
            for cells in [[BIG] * size, [1] * size, [1] + [0] * (size - 1)]:
                for wrong_k, wrong_w in itertools.product(self.WRONG_K, self.WRONG_W):
                    self.answered(-22, rows, cols, wrong_k, 1, cells)
                    self.answered(-22, rows, cols, wrong_k, 100, cells)
                    self.answered(-22, rows, cols, 2, wrong_w, cells)
                    self.answered(-22, rows, cols, 20, wrong_w, cells)
                    self.answered(-22, rows, cols, wrong_k, wrong_w, cells)

    def test_more_than_12_cells(self):
        self.assertEqual(ABOVE_12, [(3, 5), (4, 4), (4, 5), (5, 3), (5, 4), (5, 5)])
        for rows, cols in ABOVE_12:
            size = rows * cols
            for k, w in itertools.product([2, 20], [1, 100]):
                self.answered(-28, rows, cols, k, w, [BIG] * size)
                self.answered(-28, rows, cols, k, w, [1] * size)
                self.answered(-28, rows, cols, k, w, [0] * size)
                self.answered(-28, rows, cols, k, w, [10000] * size)

    def test_not_as_told_ahead_of_more_than_12_cells(self):
        for rows, cols in ABOVE_12:
            size = rows * cols
            self.answered(-22, rows, cols, 1, 1, [BIG] * size)
            self.answered(-22, rows, cols, 2, 101, [BIG] * size)
            self.answered(-22, rows, cols, 2, 1, [BIG] * (size - 1) + [10001])
            self.answered(-22, rows, cols, 2, 1, [BIG] * (size - 1))
            self.answered(-22, rows, cols, 2, 1, [BIG] * (size + 1))
        self.answered(-22, 6, 6, 2, 1, [BIG] * 36)
        self.answered(-22, 5, 6, 2, 1, [BIG] * 30)
        self.answered(-22, 4294967295, 4294967295, 2, 1, [BIG] * 40)

    def test_more_than_12_cells_ahead_of_never_safe(self):
        for rows, cols in ABOVE_12:
            size = rows * cols
            self.assertNotEqual(safe(rows, cols, all_of(rows, cols), 2, 1, [1] + [0] * (size - 1)), [0])
            self.answered(-28, rows, cols, 2, 1, [1] + [0] * (size - 1))
            self.answered(-28, rows, cols, 2, 1, [0] * (size - 1) + [1])

    def test_12_cells_are_not_too_many(self):
        self.assertEqual(UP_TO_12, [(2, 2), (2, 3), (2, 4), (2, 5), (3, 2), (3, 3), (3, 4), (4, 2), (4, 3), (5, 2)])
        for rows, cols in UP_TO_12:
            size = rows * cols
            corners = [0, 1, cols, cols + 1]
            for k, w in itertools.product([2, 20], [1, 100]):
                self.assertEqual(best(rows, cols, k, w, [BIG] * size), [0, 0])
                self.assertEqual(best(rows, cols, k, w, [1] + [10000] * (size - 1)), [4, bits(corners)])
                self.answered(-33, rows, cols, k, w, [1] + [0] * (size - 1))

    def test_never_safe_by_w_alone(self):
        self.assertEqual(best(2, 2, 2, 100, [1, 99, 500, 500]), [4, 15])
        self.answered(-33, 2, 2, 2, 100, [1, 98, 500, 500])


class Interface(unittest.TestCase):
    """What the interface says of every call."""

    CALLS = [(2, 3, 5, 3, [1, 2, 3, 4, 5, 6]), (2, 3, 2, 1, [1, 20, 30, 7, 40, 29]), (2, 3, 2, 1, [9] * 6),
             (3, 4, 20, 9, [9, 8, 7, 6, 5, 4, 3, 2, 1, 50, 50, 50]), (2, 3, 1, 3, [1, 2, 3, 4, 5, 6]),
             (2, 3, 5, 3, [1, 2, 3]), (2, 3, 5, 101, [10001] * 6), (4, 4, 5, 3, [1] * 16),
             (2, 2, 2, 1, [1, 1, 0, 0])]

    def test_names_of_the_arguments(self):
        self.assertEqual(list(inspect.signature(best).parameters), ["rows", "cols", "k", "w", "cells"])
        self.assertEqual(best(rows=2, cols=3, k=2, w=1, cells=[1, 20, 30, 7, 40, 29]), [4, 45])

    def test_what_is_handed_in_is_as_it_was(self):
        for rows, cols, k, w, cells in self.CALLS:
            handed = list(cells)
            best(rows, cols, k, w, handed)
            self.assertEqual(handed, cells)

    def test_what_is_handed_in_is_not_changed_for_a_while(self):
        for rows, cols, k, w, cells in self.CALLS:
            self.assertEqual(best(rows, cols, k, w, Unchangeable(cells)), best(rows, cols, k, w, cells))

    def test_the_same_call_gives_the_same_answer(self):
        first = [best(*call) for call in self.CALLS]
        kept = [list(answer) for answer in first]
        for answer in first:
            answer.append(7)
        self.assertEqual([best(*call) for call in reversed(self.CALLS)], kept[::-1])
        self.assertEqual([best(*call) for call in self.CALLS], kept)

    def test_the_answer_is_a_list_of_one_or_two_whole_numbers(self):
        for call in self.CALLS:
            answer = best(*call)
            self.assertIs(type(answer), list)
            self.assertEqual([type(number) for number in answer], [int] if answer[0] < 0 else [int, int])
            self.assertIsNot(answer, call[4])

    def test_nothing_is_printed(self):
        out, err = io.StringIO(), io.StringIO()
        with contextlib.redirect_stdout(out), contextlib.redirect_stderr(err):
            for call in self.CALLS:
                best(*call)
        self.assertEqual(out.getvalue() + err.getvalue(), "")


if __name__ == "__main__":
    unittest.main()
