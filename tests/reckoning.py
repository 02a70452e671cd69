"""What the tests share: tables to try, and other ways to the answers to hold the program against."""

import itertools

SIZES = [(rows, cols) for rows in range(2, 6) for cols in range(2, 6)]
UP_TO_12 = [(rows, cols) for rows, cols in SIZES if rows * cols <= 12]
BIG = 50


class Unchangeable(list):
    """A list that refuses every change, so that not even a passing one goes unseen."""

    def refuse(self, *args, **kwargs):
        raise RuntimeError("the list that was handed in is changed")

    __setitem__ = __delitem__ = __iadd__ = __imul__ = refuse
    append = extend = insert = pop = remove = clear = sort = reverse = refuse


def bits(cells):
    return sum(1 << e for e in cells)


def all_of(rows, cols):
    return (1 << rows * cols) - 1


def big_but(size, counts):
    """Cells with a big count, but where counts says otherwise."""
    return [counts.get(e, BIG) for e in range(size)]


def some_table(source, rows, cols, greatest):
    return [source.randrange(greatest + 1) for e in range(rows * cols)]


def tables_not_as_told():
    """Rows, cols and cells that every call refuses."""
    for wrong in [0, 1, 6, 7, 8, 20, 40, 65536, 4294967295]:
        for right in [2, 3, 4, 5]:
            for length in [0, 4, 25, 40, min(40, wrong * right)]:
                yield wrong, right, [1] * length
                yield right, wrong, [1] * length
        yield wrong, wrong, [1] * min(40, wrong * wrong)
    for rows, cols in SIZES:
        size = rows * cols
        for length in range(41):
            if length != size:
                yield rows, cols, [1] * length
        for e in range(size):
            for count in [10001, 65535]:
                yield rows, cols, [1] * e + [count] + [1] * (size - 1 - e)
    yield 0, 6, [65535] * 40
    yield 4294967295, 4294967295, []


def hidings_not_as_told():
    """Rows, cols, hidden and cells that every call with a hidden refuses."""
    for rows, cols, cells in tables_not_as_told():
        for hidden in [0, 1, 8, 4294967295]:
            yield rows, cols, hidden, cells
    for rows, cols in SIZES:
        size = rows * cols
        for hidden in [1 << size, (1 << size) + 1, (2 << size) - 1, 1 << 31, 4294967295]:
            yield rows, cols, hidden, [1] * size


def is_hidden(hidden, cell):
    return hidden >> cell & 1 == 1


def told(rows, cols, hidden, counts):
    """All that is told of the counts: open cells, sums of rows, sums of columns."""
    open_cells = [None if is_hidden(hidden, e) else counts[e] for e in range(rows * cols)]
    row_sums = [sum(counts[r * cols:(r + 1) * cols]) for r in range(rows)]
    col_sums = [sum(counts[c::cols]) for c in range(cols)]
    return open_cells, row_sums, col_sums


def rows_that_agree(total, hidden, row, caps):
    """All rows with this sum and these open counts, no count above its column's cap."""
    if not row:
        return [[]] if total == 0 else []
    if hidden & 1:
        choices = range(min(total, caps[0]) + 1)
    else:
        choices = [row[0]] if row[0] <= min(total, caps[0]) else []
    found = []
    for count in choices:
        for rest in rows_that_agree(total - count, hidden >> 1, row[1:], caps[1:]):
            found.append([count] + rest)
    return found


def all_that_agree(rows, cols, hidden, cells):
    """All counts that agree with the told part of a table, one list each."""
    # What is told is taken off the sums first, so that only what may be hidden is tried.
    told_cells = [0 if is_hidden(hidden, e) else cells[e] for e in range(rows * cols)]
    rest = [count - known for count, known in zip(cells, told_cells)]
    sums = told(rows, cols, hidden, rest)
    begun = [([], sums[2])]
    for r in range(rows):
        row = rest[r * cols:(r + 1) * cols]
        longer = []
        for counts, left in begun:
            for chosen in rows_that_agree(sums[1][r], hidden >> (r * cols) & ((1 << cols) - 1), row, left):
                longer.append((counts + chosen, [a - b for a, b in zip(left, chosen)]))
        begun = longer
    return [[a + b for a, b in zip(counts, told_cells)] for counts, left in begun if not any(left)]


def audit_by_counting(rows, cols, hidden, cells):
    """The answer of audit, by a plain count over all counts that agree."""
    agreeing = all_that_agree(rows, cols, hidden, cells)
    answer = [0]
    for e in range(rows * cols):
        answer.append(min(counts[e] for counts in agreeing))
        answer.append(max(counts[e] for counts in agreeing))
    return answer


def narrowest_cut(rows, cols, hidden, cells, cell, raising):
    """By how much the cell can be raised or lowered: the narrowest of all cuts through the others.

    A cut is a choice of rows and columns. Through it goes no more than the hidden
    counts of the chosen columns in rows not chosen; it holds nothing back where a
    chosen row has a hidden cell in a column not chosen.
    """
    own_row, own_col = divmod(cell, cols)
    narrowest = None
    for chosen in itertools.product((False, True), repeat=rows + cols):
        in_row, in_col = chosen[:rows], chosen[rows:]
        if in_row[own_row] == raising or in_col[own_col] != raising:
            continue
        others = [divmod(e, cols) for e in range(rows * cols) if e != cell and is_hidden(hidden, e)]
        if any(in_row[r] and not in_col[c] for r, c in others):
            continue
        width = sum(cells[r * cols + c] for r, c in others if in_col[c] and not in_row[r])
        if narrowest is None or width < narrowest:
            narrowest = width
    return narrowest


def audit_by_cuts(rows, cols, hidden, cells):
    """The answer of audit, by the narrowest cuts; for tables too great to be counted out."""
    answer = [0]
    for e in range(rows * cols):
        if is_hidden(hidden, e):
            answer.append(max(0, cells[e] - narrowest_cut(rows, cols, hidden, cells, e, False)))
            answer.append(cells[e] + narrowest_cut(rows, cols, hidden, cells, e, True))
        else:
            answer.extend([cells[e], cells[e]])
    return answer


def first_not_kept(hidden, k, w, cells, answer):
    """The answer of safe, by an answer of audit that is already known."""
    for e, count in enumerate(cells):
        if count in range(1, k):
            if not is_hidden(hidden, e) or answer[2 + 2 * e] < answer[1 + 2 * e] + w:
                return [e + 1]
    return [0]


def safe_by_cuts(rows, cols, hidden, k, w, cells):
    return first_not_kept(hidden, k, w, cells, audit_by_cuts(rows, cols, hidden, cells))


def hides_all_small(hidden, k, cells):
    return all(is_hidden(hidden, e) for e, count in enumerate(cells) if count in range(1, k))


def rank(hidden, cells):
    """What best goes by, the least first: how many cells, the sum of their counts, the number."""
    counts = [count for e, count in enumerate(cells) if is_hidden(hidden, e)]
    return len(counts), sum(counts), hidden


def best_of(safe_hidings, cells):
    """The answer of best, by all hidings that are safe."""
    ranks = sorted(rank(hidden, cells) for hidden in safe_hidings)
    return [ranks[0][0], ranks[0][2]] if ranks else [-33]


def audits_by_counting(rows, cols, cells):
    """By a plain count, the answers of audit for all hidings that may be safe by any k, hiding by hiding."""
    # A 1 is small by every k: where one is told, there is nothing to count.
    return {hidden: audit_by_counting(rows, cols, hidden, cells)
            for hidden in range(1 << rows * cols) if hides_all_small(hidden, 2, cells)}


def best_by_trying(answers, k, w, cells):
    """The answer of best, by a plain search through answers of audit for all hidings."""
    return best_of([hidden for hidden, answer in answers.items()
                    if first_not_kept(hidden, k, w, cells, answer) == [0]], cells)
