"""Promise 1, and of promise 4 what speaks of bounds."""

import contextlib
import io
import itertools
import random
import unittest

from hiddencounts.tables import audit
from tests.reckoning import SIZES, Unchangeable, all_that_agree, audit_by_counting, audit_by_cuts, bits
from tests.reckoning import hidings_not_as_told, is_hidden, some_table, told


def known(cells):
    """The answer where every cell is known."""
    answer = [0]
    for count in cells:
        answer.extend([count, count])
    return answer


def bounds(answer):
    """The pairs (least, most) of an answer, cell by cell."""
    return list(zip(answer[1::2], answer[2::2]))


class Counted(unittest.TestCase):
    """The bounds against a plain count over all counts that agree."""

    def check(self, rows, cols, hidden, cells):
        self.assertEqual(audit(rows, cols, hidden, cells), audit_by_counting(rows, cols, hidden, cells),
                         (rows, cols, hidden, cells))

    def test_every_2_by_2_with_counts_to_3(self):
        for cells in itertools.product(range(4), repeat=4):
            for hidden in range(16):
                self.check(2, 2, hidden, list(cells))

    def test_every_2_by_3_and_3_by_2_of_0_and_1(self):
        for cells in itertools.product(range(2), repeat=6):
            for hidden in range(64):
                self.check(2, 3, hidden, list(cells))
                self.check(3, 2, hidden, list(cells))

    def test_every_hiding_of_a_3_by_3(self):
        for hidden in range(512):
            self.check(3, 3, hidden, [1, 0, 2, 3, 1, 0, 0, 2, 1])

    def test_every_hiding_of_a_3_by_4_of_0_and_1(self):
        for hidden in range(4096):
            self.check(3, 4, hidden, [1, 0, 0, 1, 0, 1, 0, 0, 1, 0, 1, 0])

    def test_small_tables(self):
        source = random.Random(1)
        for rows, cols in [(2, 2), (2, 3), (3, 2), (3, 3), (2, 4), (4, 2), (3, 4), (4, 3), (2, 5), (5, 2)]:
            for turn in range(40):
                hidden = source.randrange(1 << rows * cols)
                self.check(rows, cols, hidden, some_table(source, rows, cols, 3))

    def test_every_size_with_few_hidden(self):
        source = random.Random(2)
        for rows, cols in SIZES:
            for turn in range(15):
                hidden = bits(source.sample(range(rows * cols), min(rows * cols, 9)))
                self.check(rows, cols, hidden, some_table(source, rows, cols, 4))

    def test_4_by_4_all_hidden(self):
        self.check(4, 4, (1 << 16) - 1, [1, 0, 0, 1, 0, 1, 0, 0, 0, 0, 2, 0, 1, 0, 0, 1])


class Cut(unittest.TestCase):
    """The bounds against the narrowest cuts, where there are too many counts to count."""

    def check(self, rows, cols, hidden, cells):
        self.assertEqual(audit(rows, cols, hidden, cells), audit_by_cuts(rows, cols, hidden, cells),
                         (rows, cols, hidden, cells))

    def test_cuts_are_as_counts_say(self):
        source = random.Random(3)
        for rows, cols in [(2, 2), (2, 3), (3, 3), (3, 4)]:
            for turn in range(10):
                hidden = source.randrange(1 << rows * cols)
                cells = some_table(source, rows, cols, 2)
                self.assertEqual(audit_by_cuts(rows, cols, hidden, cells),
                                 audit_by_counting(rows, cols, hidden, cells))

    def test_every_size(self):
        source = random.Random(4)
        for rows, cols in SIZES:
            for greatest in [1, 30, 10000]:
                hidden = source.randrange(1 << rows * cols)
                self.check(rows, cols, hidden, some_table(source, rows, cols, greatest))

    def test_every_size_all_hidden(self):
        source = random.Random(5)
        for rows, cols in SIZES:
            self.check(rows, cols, (1 << rows * cols) - 1, some_table(source, rows, cols, 10000))

    def test_5_by_5_half_hidden(self):
        source = random.Random(6)
        for turn in range(8):
            hidden = bits(source.sample(range(25), 13))
            self.check(5, 5, hidden, some_table(source, 5, 5, 9))


class Corners(unittest.TestCase):
    """The corners that the document names, with answers reckoned by hand."""

    def test_nothing_hidden(self):
        for rows, cols in SIZES:
            cells = list(range(rows * cols))
            self.assertEqual(audit(rows, cols, 0, cells), known(cells))

    def test_all_hidden(self):
        self.assertEqual(audit(2, 2, 15, [1, 2, 3, 4]), [0, 0, 3, 0, 3, 1, 4, 3, 6])

    def test_all_hidden_and_all_0(self):
        self.assertEqual(audit(3, 3, 511, [0] * 9), known([0] * 9))

    def test_two_in_one_row_alone(self):
        cells = [1, 2, 3, 4, 5, 6]
        self.assertEqual(audit(2, 3, bits([0, 1]), cells), known(cells))
        self.assertEqual(audit(2, 3, bits([3, 5]), cells), known(cells))

    def test_two_in_one_column_alone(self):
        cells = [1, 2, 3, 4, 5, 6]
        self.assertEqual(audit(2, 3, bits([1, 4]), cells), known(cells))

    def test_four_at_the_corners_of_a_rectangle(self):
        cells = [3, 9, 5, 9, 9, 9, 4, 9, 7]
        self.assertEqual(bounds(audit(3, 3, bits([0, 2, 6, 8]), cells)),
                         [(0, 7), (9, 9), (1, 8), (9, 9), (9, 9), (9, 9), (0, 7), (9, 9), (4, 11)])

    def test_four_at_the_corners_one_of_them_0(self):
        cells = [0, 9, 5, 9, 9, 9, 4, 9, 7]
        self.assertEqual(bounds(audit(3, 3, bits([0, 2, 6, 8]), cells)),
                         [(0, 4), (9, 9), (1, 5), (9, 9), (9, 9), (9, 9), (0, 4), (9, 9), (7, 11)])

    def test_two_0_beside_one_another_make_four_corners_known(self):
        cells = [0, 0, 5, 6]
        self.assertEqual(audit(2, 2, 15, cells), known(cells))

    def test_ring_of_six(self):
        cells = [5, 2, 9, 9, 4, 3, 1, 9, 6]
        self.assertEqual(bounds(audit(3, 3, bits([0, 1, 4, 5, 6, 8]), cells)),
                         [(1, 6), (1, 6), (9, 9), (9, 9), (0, 5), (2, 7), (0, 5), (9, 9), (2, 7)])

    def test_ring_of_six_with_a_0(self):
        cells = [5, 2, 9, 9, 4, 3, 0, 9, 6]
        self.assertEqual(bounds(audit(3, 3, bits([0, 1, 4, 5, 6, 8]), cells)),
                         [(1, 5), (2, 6), (9, 9), (9, 9), (0, 4), (3, 7), (0, 4), (9, 9), (2, 6)])

    def test_counts_of_0_and_1(self):
        self.assertEqual(audit(2, 2, 15, [1, 0, 0, 1]), [0, 0, 1, 0, 1, 0, 1, 0, 1])
        self.assertEqual(audit(2, 2, 15, [1, 1, 0, 0]), known([1, 1, 0, 0]))

    def test_5_by_5_all_hidden_with_greatest_counts(self):
        # A most may be above 10,000: that is the limit of a handed-in count alone.
        self.assertEqual(audit(5, 5, (1 << 25) - 1, [10000] * 25), [0] + [0, 50000] * 25)

    def test_5_by_5_with_one_cycle(self):
        cells = [7] * 25
        cells[6], cells[8], cells[21], cells[23] = 2, 10000, 3, 1
        answer = bounds(audit(5, 5, bits([6, 8, 21, 23]), cells))
        self.assertEqual([answer[e] for e in [6, 8, 21, 23]], [(1, 5), (9997, 10001), (0, 4), (0, 4)])
        self.assertEqual([answer[e] for e in range(25) if e not in [6, 8, 21, 23]], [(7, 7)] * 21)

    def test_3_by_4_goes_row_by_row(self):
        cells = [1, 2, 3, 4, 5, 6, 7, 8, 9, 10, 11, 12]
        self.assertEqual(bounds(audit(3, 4, bits([1, 3, 9, 11]), cells)),
                         [(1, 1), (0, 6), (3, 3), (0, 6), (5, 5), (6, 6), (7, 7), (8, 8),
                          (9, 9), (6, 12), (11, 11), (10, 16)])

    def test_least_stops_at_0_where_the_others_could_go_on(self):
        self.assertEqual(bounds(audit(2, 2, 15, [2, 0, 0, 50])), [(0, 2), (0, 2), (0, 2), (48, 50)])


class Refused(unittest.TestCase):
    """What is answered by -22 alone, and what just isn't."""

    def refused(self, rows, cols, hidden, cells):
        self.assertEqual(audit(rows, cols, hidden, cells), [-22], (rows, cols, hidden, cells))

    def test_tables_and_hidings_not_as_told(self):
        for rows, cols, hidden, cells in hidings_not_as_told():
            self.refused(rows, cols, hidden, cells)

    def test_as_many_cells_but_wrong_sides(self):
        self.refused(1, 4, 0, [1] * 4)
        self.refused(4, 1, 0, [1] * 4)
        self.refused(6, 2, 0, [1] * 12)
        self.refused(2, 6, 0, [1] * 12)
        self.refused(5, 8, 0, [1] * 40)
        self.refused(0, 0, 0, [])

    def test_count_of_10000_is_not_refused(self):
        for rows, cols in SIZES:
            cells = [10000] * (rows * cols)
            self.assertEqual(audit(rows, cols, 0, cells), known(cells))

    def test_bit_of_the_last_cell_is_not_refused(self):
        for rows, cols in SIZES:
            cells = [3] * (rows * cols)
            self.assertEqual(audit(rows, cols, 1 << (rows * cols - 1), cells), known(cells))
            self.assertEqual(audit(rows, cols, (1 << rows * cols) - 1, cells)[0], 0)


class WhatHolds(unittest.TestCase):
    """Promise 4, as far as it speaks of bounds."""

    def test_counts_that_agree_are_within_and_reach_the_bounds(self):
        source = random.Random(7)
        for rows, cols in [(2, 3), (3, 3), (4, 2), (3, 4)]:
            for turn in range(15):
                hidden = source.randrange(1 << rows * cols)
                cells = some_table(source, rows, cols, 2)
                answer = bounds(audit(rows, cols, hidden, cells))
                agreeing = all_that_agree(rows, cols, hidden, cells)
                self.assertIn(cells, agreeing)
                for counts in agreeing:
                    self.assertEqual(told(rows, cols, hidden, counts), told(rows, cols, hidden, cells))
                for e, (least, most) in enumerate(answer):
                    had = [counts[e] for counts in agreeing]
                    self.assertTrue(all(least <= count <= most for count in had))
                    self.assertIn(least, had)
                    self.assertIn(most, had)

    def test_the_table_itself_is_within(self):
        source = random.Random(8)
        for rows, cols in SIZES:
            for turn in range(10):
                cells = some_table(source, rows, cols, source.choice([1, 5, 10000]))
                answer = bounds(audit(rows, cols, source.randrange(1 << rows * cols), cells))
                for count, (least, most) in zip(cells, answer):
                    self.assertTrue(0 <= least <= count <= most)

    def test_with_more_hidden_no_bounds_are_narrower(self):
        source = random.Random(9)
        for rows, cols in SIZES:
            cells = some_table(source, rows, cols, 12)
            order = source.sample(range(rows * cols), rows * cols)
            before = bounds(audit(rows, cols, 0, cells))
            for length in range(1, rows * cols + 1):
                after = bounds(audit(rows, cols, bits(order[:length]), cells))
                for (old_least, old_most), (least, most) in zip(before, after):
                    self.assertTrue(least <= old_least and old_most <= most)
                before = after

    def test_alone_hidden_in_its_row_is_known(self):
        source = random.Random(10)
        for rows, cols in SIZES:
            cells = some_table(source, rows, cols, 50)
            for alone in range(rows * cols):
                row = alone // cols
                others = [e for e in range(rows * cols) if e // cols != row]
                answer = bounds(audit(rows, cols, bits(others + [alone]), cells))
                self.assertEqual(answer[alone], (cells[alone], cells[alone]))

    def test_alone_hidden_in_its_column_is_known(self):
        source = random.Random(11)
        for rows, cols in SIZES:
            cells = some_table(source, rows, cols, 50)
            for alone in range(rows * cols):
                others = [e for e in range(rows * cols) if e % cols != alone % cols]
                answer = bounds(audit(rows, cols, bits(others + [alone]), cells))
                self.assertEqual(answer[alone], (cells[alone], cells[alone]))

    def test_what_is_not_hidden_is_known(self):
        source = random.Random(12)
        for rows, cols in SIZES:
            cells = some_table(source, rows, cols, 50)
            hidden = source.randrange(1 << rows * cols)
            for e, pair in enumerate(bounds(audit(rows, cols, hidden, cells))):
                if not is_hidden(hidden, e):
                    self.assertEqual(pair, (cells[e], cells[e]))


class Interface(unittest.TestCase):
    """What the interface says of every call."""

    def test_what_is_handed_in_is_as_it_was(self):
        for cells in [[1, 2, 3, 4, 5, 6], [1, 2, 3], [10001] * 6]:
            handed = list(cells)
            audit(2, 3, 63, handed)
            self.assertEqual(handed, cells)

    def test_what_is_handed_in_is_not_changed_for_a_while(self):
        source = random.Random(13)
        for rows, cols in SIZES:
            cells = some_table(source, rows, cols, 9)
            hidden = (1 << rows * cols) - 1
            self.assertEqual(audit(rows, cols, hidden, Unchangeable(cells)), audit(rows, cols, hidden, cells))

    def test_the_same_call_gives_the_same_answer(self):
        first = audit(3, 3, 511, [1, 2, 3, 4, 5, 6, 7, 8, 9])
        kept = list(first)
        first.clear()
        audit(2, 2, 15, [1, 0, 0, 1])
        self.assertEqual(audit(0, 2, 15, []), [-22])
        self.assertEqual(audit(3, 3, 511, [1, 2, 3, 4, 5, 6, 7, 8, 9]), kept)
        audit(0, 2, 15, []).append(5)
        self.assertEqual(audit(0, 2, 15, []), [-22])

    def test_the_answer_is_a_new_list_of_whole_numbers(self):
        cells = [1, 2, 3, 4]
        for answer in [audit(2, 2, 15, cells), audit(2, 2, 0, cells), audit(2, 2, 16, cells)]:
            self.assertIs(type(answer), list)
            self.assertIsNot(answer, cells)
            self.assertEqual({type(number) for number in answer}, {int})

    def test_how_long_the_answer_is(self):
        for rows, cols in SIZES:
            self.assertEqual(len(audit(rows, cols, 1, [1] * (rows * cols))), 1 + 2 * rows * cols)

    def test_arguments_by_name(self):
        self.assertEqual(audit(rows=2, cols=3, hidden=0, cells=[1, 2, 3, 4, 5, 6]), known([1, 2, 3, 4, 5, 6]))

    def test_nothing_is_printed(self):
        out, err = io.StringIO(), io.StringIO()
        with contextlib.redirect_stdout(out), contextlib.redirect_stderr(err):
            audit(2, 2, 15, [1, 2, 3, 4])
            audit(1, 2, 15, [1, 2, 3, 4])
        self.assertEqual(out.getvalue() + err.getvalue(), "")


if __name__ == "__main__":
    unittest.main()
