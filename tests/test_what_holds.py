"""Promise 4, over audit, safe and best together."""

import itertools
import random
import unittest

from hiddencounts.tables import audit, best, safe
from tests.reckoning import UP_TO_12, all_of, all_that_agree, best_of, is_hidden, rank, some_table, told

SMALL_SIZES = [(2, 2), (2, 3), (3, 2), (2, 4), (4, 2), (3, 3)]


def bounds(rows, cols, hidden, cells):
    """The pairs (least, most) that audit answers, cell by cell."""
    answer = audit(rows, cols, hidden, cells)
    return list(zip(answer[1::2], answer[2::2]))


def small(k, cells):
    return [e for e, count in enumerate(cells) if 0 < count < k]


class Bounds(unittest.TestCase):
    """What holds of audit over all hidings of a table."""

    def tables(self):
        source = random.Random(61)
        for rows, cols in SMALL_SIZES:
            for turn in range(2):
                yield rows, cols, some_table(source, rows, cols, 2)
        yield 3, 4, [0, 1, 0, 0, 1, 0, 2, 0, 0, 0, 1, 1]

    def test_counts_that_agree_are_within_the_bounds_and_meet_both(self):
        for rows, cols, cells in self.tables():
            for hidden in range(0, 1 << rows * cols, 1 if rows * cols < 12 else 5):
                agreeing = all_that_agree(rows, cols, hidden, cells)
                self.assertIn(cells, agreeing)
                for e, (least, most) in enumerate(bounds(rows, cols, hidden, cells)):
                    had = {counts[e] for counts in agreeing}
                    self.assertTrue(all(least <= count <= most for count in had))
                    self.assertTrue(least in had and most in had)

    def test_with_one_more_hidden_no_bounds_are_narrower(self):
        for rows, cols, cells in self.tables():
            all_bounds = [bounds(rows, cols, hidden, cells) for hidden in range(1 << rows * cols)]
            for hidden, before in enumerate(all_bounds):
                for more in range(rows * cols):
                    after = all_bounds[hidden | 1 << more]
                    for (old_least, old_most), (least, most) in zip(before, after):
                        self.assertTrue(least <= old_least and old_most <= most)

    def test_alone_hidden_in_its_row_or_its_column_is_known(self):
        for rows, cols, cells in self.tables():
            for hidden in range(1 << rows * cols):
                pairs = bounds(rows, cols, hidden, cells)
                places = [divmod(e, cols) for e in range(rows * cols) if is_hidden(hidden, e)]
                for r, c in places:
                    alone_in_row = len([place for place in places if place[0] == r]) == 1
                    alone_in_col = len([place for place in places if place[1] == c]) == 1
                    if alone_in_row or alone_in_col:
                        count = cells[r * cols + c]
                        self.assertEqual(pairs[r * cols + c], (count, count))


class SafeTables(unittest.TestCase):
    """What holds of safe and best, by one another and by all counts that agree."""

    def tables(self):
        source = random.Random(62)
        for rows, cols in UP_TO_12:
            for turn in range(2):
                # Few are small, so that there is something to choose.
                yield rows, cols, [source.choice([0, 0, 1, 2, 3, 4, 5]) for e in range(rows * cols)]

    def test_what_best_tells_is_safe_and_nothing_safe_is_better(self):
        told_any = 0
        for rows, cols, cells in self.tables():
            for k, w in [(2, 1), (2, 4), (3, 2), (6, 3)]:
                found = [hidden for hidden in range(1 << rows * cols)
                         if safe(rows, cols, hidden, k, w, cells) == [0]]
                given = best(rows, cols, k, w, cells)
                self.assertEqual(given, best_of(found, cells))
                if given == [-33]:
                    self.assertEqual(found, [])
                    continue
                told_any += 1
                self.assertIn(given[1], found)
                self.assertEqual(given[0], bin(given[1]).count("1"))
                self.assertTrue(all(bin(hidden).count("1") >= given[0] for hidden in found))
        self.assertGreater(told_any, 20)

    def test_what_can_not_be_made_safe_is_not_safe_with_all_hidden(self):
        for rows, cols, cells in self.tables():
            for k, w in itertools.product([2, 4, 20], [1, 5, 10]):
                self.assertEqual(best(rows, cols, k, w, cells) == [-33],
                                 safe(rows, cols, all_of(rows, cols), k, w, cells) != [0])

    def test_of_a_small_count_in_a_safe_table_two_that_agree_are_w_apart(self):
        source = random.Random(63)
        told_any = 0
        for rows, cols in UP_TO_12:
            for turn in range(4):
                cells = some_table(source, rows, cols, 2)
                for k, w in [(2, 1), (2, 2), (2, 3)]:
                    given = best(rows, cols, k, w, cells)
                    if given[0] <= 0:
                        continue
                    told_any += 1
                    agreeing = all_that_agree(rows, cols, given[1], cells)
                    for counts in agreeing[:20]:
                        self.assertEqual(told(rows, cols, given[1], counts), told(rows, cols, given[1], cells))
                    for e in small(k, cells):
                        had = {counts[e] for counts in agreeing}
                        self.assertTrue(any(count + w in had for count in had))
        self.assertGreater(told_any, 20)

    def test_each_small_count_is_hidden_and_not_alone_in_its_row_or_column(self):
        for rows, cols, cells in self.tables():
            for k, w in [(2, 1), (3, 2), (6, 3)]:
                given = best(rows, cols, k, w, cells)
                if given == [-33]:
                    continue
                hidden = [e for e in range(rows * cols) if is_hidden(given[1], e)]
                for e in small(k, cells):
                    self.assertIn(e, hidden)
                    self.assertTrue(any(other // cols == e // cols for other in hidden if other != e))
                    self.assertTrue(any(other % cols == e % cols for other in hidden if other != e))

    def test_less_asked_takes_no_more(self):
        for rows, cols, cells in self.tables():
            for k, w in itertools.product([3, 6], [2, 4]):
                given = best(rows, cols, k, w, cells)
                if given != [-33]:
                    for less in [best(rows, cols, k - 1, w, cells), best(rows, cols, k, w - 1, cells)]:
                        self.assertTrue(0 <= less[0] <= given[0])
                        self.assertLessEqual(rank(less[1], cells), rank(given[1], cells))

    def test_rows_and_columns_may_change_places(self):
        for rows, cols, cells in self.tables():
            turned = [cells[r * cols + c] for c in range(cols) for r in range(rows)]
            for k, w in [(2, 2), (4, 1)]:
                given = best(rows, cols, k, w, cells)
                other = best(cols, rows, k, w, turned)
                self.assertEqual(given[0], other[0])
                if given != [-33]:
                    self.assertEqual(rank(given[1], cells)[:2], rank(other[1], turned)[:2])


if __name__ == "__main__":
    unittest.main()
