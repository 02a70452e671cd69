"""Promise 2, and of promise 4 what speaks of safe tables."""

import contextlib
import inspect
import io
import itertools
import random
import unittest

from hiddencounts.tables import safe
from tests.reckoning import BIG, SIZES, Unchangeable, all_of, all_that_agree, audit_by_counting, big_but, bits
from tests.reckoning import first_not_kept, hidings_not_as_told, is_hidden, safe_by_cuts, some_table

class Counted(unittest.TestCase):
    """The answers against a plain count over all counts that agree."""

    def check(self, rows, cols, hidden, cells, asked):
        answer = audit_by_counting(rows, cols, hidden, cells)
        for k, w in asked:
            self.assertEqual(safe(rows, cols, hidden, k, w, cells), first_not_kept(hidden, k, w, cells, answer),
                             (rows, cols, hidden, k, w, cells))

    def test_every_2_by_2_with_counts_to_3(self):
        asked = list(itertools.product([2, 3, 4, 5], [1, 2, 3, 4]))
        for cells in itertools.product(range(4), repeat=4):
            for hidden in range(16):
                self.check(2, 2, hidden, list(cells), asked)

    def test_every_2_by_3_and_3_by_2_of_0_and_1(self):
        for cells in itertools.product(range(2), repeat=6):
            for hidden in range(64):
                self.check(2, 3, hidden, list(cells), [(2, 1), (2, 2)])
                self.check(3, 2, hidden, list(cells), [(2, 1), (2, 2)])

    def test_every_hiding_of_a_3_by_3(self):
        asked = list(itertools.product([2, 3, 4], [1, 2, 3]))
        for hidden in range(512):
            self.check(3, 3, hidden, [1, 0, 2, 3, 1, 0, 0, 2, 1], asked)

    def test_every_hiding_of_a_3_by_4(self):
        for hidden in range(0, 4096, 3):
            self.check(3, 4, hidden, [2, 0, 0, 1, 0, 1, 0, 0, 1, 0, 1, 0], [(2, 1), (3, 2)])

    def test_small_tables(self):
        source = random.Random(21)
        for rows, cols in [(2, 2), (2, 3), (3, 2), (3, 3), (2, 4), (4, 2), (3, 4), (4, 3), (2, 5), (5, 2)]:
            for turn in range(30):
                cells = some_table(source, rows, cols, 3)
                # All small counts hidden, and some others: else few would be safe.
                hidden = source.randrange(1 << rows * cols) | bits(e for e, c in enumerate(cells) if c in (1, 2))
                self.check(rows, cols, hidden, cells, itertools.product([2, 3, 4], [1, 2, 3, 4]))

    def test_every_size_with_few_hidden(self):
        source = random.Random(22)
        for rows, cols in SIZES:
            for turn in range(10):
                places = source.sample(range(rows * cols), min(rows * cols, 9))
                cells = big_but(rows * cols, {e: source.randrange(5) for e in places})
                self.check(rows, cols, bits(places), cells, itertools.product([2, 3, 5, 20], [1, 2, 3, 4]))


class Cut(unittest.TestCase):
    """The answers against the narrowest cuts, where there are too many counts to count."""

    def check(self, rows, cols, hidden, k, w, cells):
        self.assertEqual(safe(rows, cols, hidden, k, w, cells), safe_by_cuts(rows, cols, hidden, k, w, cells),
                         (rows, cols, hidden, k, w, cells))

    def test_every_size(self):
        source = random.Random(23)
        for rows, cols in SIZES:
            for greatest in [3, 30, 300]:
                cells = some_table(source, rows, cols, greatest)
                k, w = source.randint(2, 20), source.randint(1, 100)
                hidden = source.randrange(1 << rows * cols) | bits(e for e, c in enumerate(cells) if 0 < c < k)
                self.check(rows, cols, hidden, k, w, cells)

    def test_5_by_5_half_hidden(self):
        source = random.Random(24)
        for turn in range(6):
            places = source.sample(range(25), 13)
            cells = big_but(25, {e: source.randrange(30) for e in places})
            self.check(5, 5, bits(places), source.randint(2, 20), source.randint(1, 20), cells)


class Corners(unittest.TestCase):
    """The corners that the document names, with answers reckoned by hand."""

    def test_nothing_hidden(self):
        for rows, cols in SIZES:
            size = rows * cols
            self.assertEqual(safe(rows, cols, 0, 20, 100, [BIG] * size), [0])
            for e in range(size):
                self.assertEqual(safe(rows, cols, 0, 20, 1, big_but(size, {e: 5})), [e + 1])

    def test_all_hidden(self):
        self.assertEqual(safe(2, 2, 15, 5, 3, [1, 2, 3, 4]), [0])
        self.assertEqual(safe(2, 2, 15, 5, 4, [1, 2, 3, 4]), [1])
        self.assertEqual(safe(2, 2, 15, 2, 5, [2, 3, 4, 1]), [4])

    def test_two_in_one_row_alone(self):
        self.assertEqual(safe(2, 3, bits([0, 1]), 3, 1, [1, 2, 30, 40, 50, 60]), [1])
        self.assertEqual(safe(2, 3, bits([3, 5]), 3, 1, [30, 40, 50, 30, 60, 2]), [6])

    def test_two_in_one_column_alone(self):
        self.assertEqual(safe(2, 3, bits([1, 4]), 3, 1, [30, 40, 50, 30, 2, 60]), [5])

    def test_four_at_the_corners_of_a_rectangle(self):
        cells = [3, 50, 5, 50, 50, 50, 4, 50, 7]
        hidden = bits([0, 2, 6, 8])
        self.assertEqual(safe(3, 3, hidden, 20, 7, cells), [0])
        self.assertEqual(safe(3, 3, hidden, 20, 8, cells), [1])

    def test_three_at_the_corners_of_a_rectangle(self):
        cells = [3, 50, 5, 50, 50, 50, 4, 50, 70]
        self.assertEqual(safe(3, 3, bits([0, 2, 6]), 20, 1, cells), [1])
        self.assertEqual(safe(3, 3, bits([0, 2, 6, 8]), 20, 1, cells), [0])

    def test_four_at_the_corners_one_of_them_0(self):
        cells = [0, 50, 5, 50, 50, 50, 4, 50, 7]
        hidden = bits([0, 2, 6, 8])
        self.assertEqual(safe(3, 3, hidden, 20, 4, cells), [0])
        # The 0 is no farther apart than the others, but it isn't small.
        self.assertEqual(safe(3, 3, hidden, 20, 5, cells), [3])
        self.assertEqual(safe(3, 3, hidden, 5, 5, cells), [7])

    def test_two_0_beside_one_another_make_four_corners_known(self):
        self.assertEqual(safe(2, 2, 15, 6, 1, [0, 0, 5, 6]), [3])

    def test_ring_of_six(self):
        cells = [5, 2, 50, 50, 4, 3, 1, 50, 6]
        hidden = bits([0, 1, 4, 5, 6, 8])
        self.assertEqual(safe(3, 3, hidden, 20, 5, cells), [0])
        self.assertEqual(safe(3, 3, hidden, 20, 6, cells), [1])
        self.assertEqual(safe(3, 3, hidden, 3, 6, cells), [2])
        self.assertEqual(safe(3, 3, hidden, 2, 6, cells), [7])

    def test_ring_of_six_with_one_told(self):
        cells = [50, 2, 50, 50, 4, 3, 1, 50, 6]
        self.assertEqual(safe(3, 3, bits([0, 1, 4, 5, 6, 8]), 20, 1, cells), [0])
        self.assertEqual(safe(3, 3, bits([1, 4, 5, 6, 8]), 20, 1, cells), [2])

    def test_ring_of_six_with_a_0(self):
        cells = [5, 2, 50, 50, 4, 3, 0, 50, 6]
        hidden = bits([0, 1, 4, 5, 6, 8])
        self.assertEqual(safe(3, 3, hidden, 20, 4, cells), [0])
        self.assertEqual(safe(3, 3, hidden, 20, 5, cells), [1])

    def test_counts_of_0_and_1(self):
        self.assertEqual(safe(2, 2, 15, 2, 1, [1, 0, 0, 1]), [0])
        self.assertEqual(safe(2, 2, 15, 2, 2, [1, 0, 0, 1]), [1])
        self.assertEqual(safe(2, 2, 15, 2, 2, [0, 1, 1, 0]), [2])
        self.assertEqual(safe(2, 2, 9, 2, 1, [1, 0, 0, 1]), [1])
        self.assertEqual(safe(2, 2, 15, 2, 1, [1, 1, 0, 0]), [1])

    def test_no_small_counts(self):
        for hidden in range(64):
            self.assertEqual(safe(2, 3, hidden, 20, 100, [0, 20, 0, 10000, 0, 21]), [0])
            self.assertEqual(safe(3, 2, hidden, 2, 100, [0] * 6), [0])

    def test_a_table_that_can_not_be_made_safe(self):
        for hidden in range(512):
            self.assertEqual(safe(3, 3, hidden, 2, 1, [0, 0, 0, 0, 1, 0, 0, 0, 0]), [5])
            self.assertEqual(safe(3, 3, hidden, 4, 1, [0, 0, 50, 0, 0, 50, 0, 0, 3]), [9])

    def test_5_by_5_with_one_cycle(self):
        cells = big_but(25, {6: 2, 8: 10000, 21: 3, 23: 1})
        hidden = bits([6, 8, 21, 23])
        self.assertEqual(safe(5, 5, hidden, 20, 4, cells), [0])
        self.assertEqual(safe(5, 5, hidden, 20, 5, cells), [7])
        self.assertEqual(safe(5, 5, hidden, 2, 5, cells), [24])

    def test_5_by_5_all_hidden(self):
        self.assertEqual(safe(5, 5, all_of(5, 5), 20, 100, [10000] * 24 + [1]), [0])
        self.assertEqual(safe(5, 5, all_of(5, 5), 20, 5, [1] * 25), [0])
        self.assertEqual(safe(5, 5, all_of(5, 5), 20, 6, [1] * 25), [1])

    def test_3_by_4_goes_row_by_row(self):
        cells = [50, 2, 50, 4, 50, 50, 50, 50, 50, 10, 50, 12]
        hidden = bits([1, 3, 9, 11])
        self.assertEqual(safe(3, 4, hidden, 20, 6, cells), [0])
        self.assertEqual(safe(3, 4, hidden, 20, 7, cells), [2])
        # The same cells otherwise laid out make no rectangle.
        self.assertEqual(safe(4, 3, hidden, 20, 1, cells), [2])


class Edges(unittest.TestCase):
    """Just safe and just not, just small and just not, the first and the last cell."""

    def test_just_w_above_the_least(self):
        # The four lie at the corners of a rectangle: from least to most it is 1 and w - 1.
        for w in range(1, 101):
            self.assertEqual(safe(2, 2, 15, 2, w, [1, w - 1, 500, 500]), [0])
            if w < 100:
                self.assertEqual(safe(2, 2, 15, 2, w + 1, [1, w - 1, 500, 500]), [1])

    def test_both_ways_count(self):
        # The least is 9 below the count and the most 6 above it.
        self.assertEqual(safe(2, 2, 15, 10, 15, [9, 60, 6, 90])[0], 0)
        self.assertEqual(safe(2, 2, 15, 10, 16, [9, 60, 6, 90])[0], 1)

    def test_which_counts_are_small(self):
        for k in range(2, 21):
            self.assertEqual(safe(2, 2, 0, k, 1, [0, BIG, BIG, BIG]), [0])
            self.assertEqual(safe(2, 2, 0, k, 1, [1, BIG, BIG, BIG]), [1])
            self.assertEqual(safe(2, 2, 0, k, 1, [k - 1, BIG, BIG, BIG]), [1])
            self.assertEqual(safe(2, 2, 0, k, 1, [k, BIG, BIG, BIG]), [0])

    def test_hidden_but_known_is_as_unsafe_as_told(self):
        for rows, cols in SIZES:
            size = rows * cols
            for e in range(size):
                self.assertEqual(safe(rows, cols, 1 << e, 6, 1, big_but(size, {e: 5})), [e + 1])
                self.assertEqual(safe(rows, cols, all_of(rows, cols) - (1 << e), 6, 1, big_but(size, {e: 5})), [e + 1])

    def test_first_of_several(self):
        # Cell 1 is told, cell 2 is known, cell 4 is told, cell 5 is told.
        cells = [BIG, 3, 4, BIG, 5, 1]
        self.assertEqual(safe(2, 3, bits([2]), 20, 1, cells), [2])
        self.assertEqual(safe(2, 3, bits([2]), 3, 1, cells), [6])
        self.assertEqual(safe(2, 3, bits([1, 2]), 20, 1, cells), [2])
        self.assertEqual(safe(2, 3, bits([1, 2, 4, 5]), 20, 1, cells), [0])
        self.assertEqual(safe(2, 3, bits([1, 2, 4, 5]), 20, 7, cells), [2])

    def test_a_narrow_cell_ahead_of_a_told_one(self):
        cells = [3, 9, BIG, 4, 6, 5]
        self.assertEqual(safe(2, 3, bits([0, 1, 3, 4]), 20, 8, cells), [1])
        self.assertEqual(safe(2, 3, bits([0, 1, 3, 4]), 20, 7, cells), [6])

    def test_a_told_cell_ahead_of_a_narrow_one(self):
        cells = [5, 3, 9, BIG, 4, 6]
        self.assertEqual(safe(2, 3, bits([1, 2, 4, 5]), 20, 8, cells), [1])
        self.assertEqual(safe(2, 3, bits([1, 2, 4, 5]), 5, 8, cells), [2])
        self.assertEqual(safe(2, 3, bits([1, 2, 4, 5]), 5, 7, cells), [0])

    def test_a_cell_that_is_not_small_may_be_told_or_known(self):
        cells = [1, 7, 0, BIG, 8, 0]
        self.assertEqual(safe(2, 3, bits([0, 1, 3, 4]), 7, 8, cells), [0])
        self.assertEqual(safe(2, 3, bits([0, 1, 2, 3, 4]), 7, 8, cells), [0])
        self.assertEqual(safe(2, 3, bits([0, 1, 3, 4]), 7, 9, cells), [1])


class Refused(unittest.TestCase):
    """What is answered by -22 alone, and what just isn't."""

    WRONG_K = [0, 1, 21, 22, 4294967295]
    WRONG_W = [0, 101, 102, 4294967295]

    def refused(self, rows, cols, hidden, k, w, cells):
        self.assertEqual(safe(rows, cols, hidden, k, w, cells), [-22], (rows, cols, hidden, k, w, cells))

    def test_tables_and_hidings_not_as_told(self):
        for rows, cols, hidden, cells in hidings_not_as_told():
            self.refused(rows, cols, hidden, 2, 1, cells)
            self.refused(rows, cols, hidden, 20, 100, cells)

    def test_k(self):
        for wrong in self.WRONG_K:
            for w in [1, 50, 100]:
                self.refused(2, 2, 0, wrong, w, [BIG] * 4)
                self.refused(2, 2, 15, wrong, w, [1, 2, 3, 4])
                self.refused(5, 5, 0, wrong, w, [1] * 25)

    def test_w(self):
        for wrong in self.WRONG_W:
            for k in [2, 10, 20]:
                self.refused(2, 2, 0, k, wrong, [BIG] * 4)
                self.refused(2, 2, 15, k, wrong, [1, 2, 3, 4])
                self.refused(5, 5, 0, k, wrong, [1] * 25)

    def test_k_and_w(self):
        for wrong_k, wrong_w in itertools.product(self.WRONG_K, self.WRONG_W):
            self.refused(2, 3, 0, wrong_k, wrong_w, [BIG] * 6)
            self.refused(2, 3, 63, wrong_k, wrong_w, [1] * 6)

    def test_several_at_once(self):
        for k, w in [(0, 1), (2, 0), (21, 101), (4294967295, 4294967295)]:
            for rows, cols, hidden, cells in hidings_not_as_told():
                self.refused(rows, cols, hidden, k, w, cells)

    def test_least_and_greatest_k_and_w_are_not_refused(self):
        for rows, cols in SIZES:
            size = rows * cols
            for k, w in itertools.product([2, 20], [1, 100]):
                self.assertEqual(safe(rows, cols, 0, k, w, [BIG] * size), [0])
                self.assertEqual(safe(rows, cols, 0, k, w, [BIG] * (size - 1) + [1]), [size])
                self.assertEqual(safe(rows, cols, all_of(rows, cols), k, w, [1] + [10000] * (size - 1)), [0])

    def test_greatest_count_and_last_bit_are_not_refused(self):
        for rows, cols in SIZES:
            size = rows * cols
            for hidden in [0, 1 << (size - 1), all_of(rows, cols)]:
                self.assertEqual(safe(rows, cols, hidden, 20, 100, [10000] * size), [0])


class WhatHolds(unittest.TestCase):
    """Promise 4, as far as it speaks of safe tables."""

    def test_of_a_small_count_in_a_safe_table_two_that_agree_are_w_apart(self):
        source = random.Random(25)
        found_safe = 0
        for rows, cols in [(2, 2), (2, 3), (3, 2), (3, 3), (2, 4), (3, 4)]:
            for turn in range(25):
                cells = some_table(source, rows, cols, 3)
                hidden = source.randrange(1 << rows * cols) | bits(e for e, c in enumerate(cells) if c in (1, 2))
                agreeing = all_that_agree(rows, cols, hidden, cells)
                for k, w in itertools.product([2, 3], [1, 2, 3]):
                    if safe(rows, cols, hidden, k, w, cells) != [0]:
                        continue
                    found_safe += 1
                    for e in [e for e, count in enumerate(cells) if 0 < count < k]:
                        had = {counts[e] for counts in agreeing}
                        self.assertTrue(any(count + w in had for count in had))
        self.assertGreater(found_safe, 100)

    def test_of_the_cell_that_is_answered_no_two_that_agree_are_w_apart(self):
        source = random.Random(26)
        found_unsafe = 0
        for rows, cols in [(2, 2), (2, 3), (3, 2), (3, 3), (2, 4), (3, 4)]:
            for turn in range(25):
                cells = some_table(source, rows, cols, 3)
                hidden = source.randrange(1 << rows * cols)
                agreeing = all_that_agree(rows, cols, hidden, cells)
                for k, w in itertools.product([2, 4], [1, 3]):
                    number = safe(rows, cols, hidden, k, w, cells)[0]
                    if number == 0:
                        continue
                    found_unsafe += 1
                    had = {counts[number - 1] for counts in agreeing}
                    self.assertTrue(0 < cells[number - 1] < k)
                    self.assertTrue(max(had) - min(had) < w)
        self.assertGreater(found_unsafe, 100)

    def test_with_more_hidden_a_safe_table_stays_safe(self):
        source = random.Random(27)
        for rows, cols in SIZES:
            cells = some_table(source, rows, cols, 9)
            order = source.sample(range(rows * cols), rows * cols)
            before = 0
            for length in range(rows * cols + 1):
                number = safe(rows, cols, bits(order[:length]), 4, 3, cells)[0]
                self.assertTrue(number == 0 or 0 < before <= number or length == 0)
                before = number

    def test_less_asked_is_safe_too(self):
        source = random.Random(28)
        for rows, cols in SIZES:
            cells = some_table(source, rows, cols, 12)
            hidden = bits(e for e, c in enumerate(cells) if c < 9)
            for k, w in itertools.product(range(3, 21), range(2, 12)):
                if safe(rows, cols, hidden, k, w, cells) == [0]:
                    self.assertEqual(safe(rows, cols, hidden, k - 1, w, cells), [0])
                    self.assertEqual(safe(rows, cols, hidden, k, w - 1, cells), [0])

    def test_a_small_count_that_is_told_or_alone_hidden_in_its_row_is_never_safe(self):
        source = random.Random(29)
        for rows, cols in SIZES:
            for alone in range(rows * cols):
                cells = [source.randint(20, 99) for e in range(rows * cols)]
                cells[alone] = source.randint(1, 19)
                hidden = bits(e for e in range(rows * cols) if e // cols != alone // cols)
                self.assertFalse(is_hidden(hidden, alone))
                self.assertEqual(safe(rows, cols, hidden, 20, 1, cells), [alone + 1])
                self.assertEqual(safe(rows, cols, hidden | 1 << alone, 20, 1, cells), [alone + 1])


class Interface(unittest.TestCase):
    """What the interface says of every call."""

    CALLS = [(2, 3, 63, 5, 3, [1, 2, 3, 4, 5, 6]), (2, 3, 0, 5, 3, [1, 2, 3, 4, 5, 6]),
             (3, 3, 511, 20, 9, [9, 8, 7, 6, 5, 4, 3, 2, 1]), (2, 3, 63, 1, 3, [1, 2, 3, 4, 5, 6]),
             (2, 3, 63, 5, 3, [1, 2, 3]), (2, 3, 63, 5, 101, [10001] * 6)]

    def test_names_of_the_arguments(self):
        self.assertEqual(list(inspect.signature(safe).parameters), ["rows", "cols", "hidden", "k", "w", "cells"])
        self.assertEqual(safe(rows=2, cols=3, hidden=0, k=3, w=1, cells=[9, 2, 3, 4, 5, 6]), [2])

    def test_what_is_handed_in_is_as_it_was(self):
        for rows, cols, hidden, k, w, cells in self.CALLS:
            handed = list(cells)
            safe(rows, cols, hidden, k, w, handed)
            self.assertEqual(handed, cells)

    def test_what_is_handed_in_is_not_changed_for_a_while(self):
        source = random.Random(30)
        for rows, cols in SIZES:
            cells = some_table(source, rows, cols, 9)
            hidden = all_of(rows, cols)
            self.assertEqual(safe(rows, cols, hidden, 20, 5, Unchangeable(cells)),
                             safe(rows, cols, hidden, 20, 5, cells))

    def test_the_same_call_gives_the_same_answer(self):
        first = [safe(*call) for call in self.CALLS]
        kept = [list(answer) for answer in first]
        for answer in first:
            answer.append(7)
        self.assertEqual([safe(*call) for call in reversed(self.CALLS)], kept[::-1])
        self.assertEqual([safe(*call) for call in self.CALLS], kept)

    def test_the_answer_is_a_list_of_one_whole_number(self):
        for call in self.CALLS:
            answer = safe(*call)
            self.assertIs(type(answer), list)
            self.assertEqual([type(number) for number in answer], [int])
            self.assertIsNot(answer, call[5])

    def test_nothing_is_printed(self):
        out, err = io.StringIO(), io.StringIO()
        with contextlib.redirect_stdout(out), contextlib.redirect_stderr(err):
            for call in self.CALLS:
                safe(*call)
        self.assertEqual(out.getvalue() + err.getvalue(), "")


if __name__ == "__main__":
    unittest.main()
