"""Two other ways to the bounds of a table, for the tests to hold the program against."""

import itertools


def is_hidden(hidden, cell):
    return hidden >> cell & 1 == 1


def told(rows, cols, hidden, counts):
    """All that is told of the counts: open cells, sums of rows, sums of columns."""
    open_cells = [None if is_hidden(hidden, e) else counts[e] for e in range(rows * cols)]
    row_sums = [sum(counts[r * cols:(r + 1) * cols]) for r in range(rows)]
    col_sums = [sum(counts[c::cols]) for c in range(cols)]
    return open_cells, row_sums, col_sums


def rows_that_agree(total, hidden, row, caps):
    """All rows with this sum and these open counts, no count above its column's cap."""
    if not row:
        return [[]] if total == 0 else []
    if hidden & 1:
        choices = range(min(total, caps[0]) + 1)
    else:
        choices = [row[0]] if row[0] <= min(total, caps[0]) else []
    found = []
    for count in choices:
        for rest in rows_that_agree(total - count, hidden >> 1, row[1:], caps[1:]):
            found.append([count] + rest)
    return found


def all_that_agree(rows, cols, hidden, cells):
    """All counts that agree with the told part of a table, one list each."""
    sums = told(rows, cols, hidden, cells)
    begun = [([], sums[2])]
    for r in range(rows):
        row = cells[r * cols:(r + 1) * cols]
        longer = []
        for counts, left in begun:
            for chosen in rows_that_agree(sums[1][r], hidden >> (r * cols) & ((1 << cols) - 1), row, left):
                longer.append((counts + chosen, [a - b for a, b in zip(left, chosen)]))
        begun = longer
    return [counts for counts, left in begun if not any(left)]


def audit_by_counting(rows, cols, hidden, cells):
    """The answer of audit, by a plain count over all counts that agree."""
    agreeing = all_that_agree(rows, cols, hidden, cells)
    answer = [0]
    for e in range(rows * cols):
        answer.append(min(counts[e] for counts in agreeing))
        answer.append(max(counts[e] for counts in agreeing))
    return answer


def narrowest_cut(rows, cols, hidden, cells, cell, raising):
    """By how much the cell can be raised or lowered: the narrowest of all cuts through the others.

    A cut is a choice of rows and columns. Through it goes no more than the hidden
    counts of the chosen columns in rows not chosen; it holds nothing back where a
    chosen row has a hidden cell in a column not chosen.
    """
    own_row, own_col = divmod(cell, cols)
    narrowest = None
    for chosen in itertools.product((False, True), repeat=rows + cols):
        in_row, in_col = chosen[:rows], chosen[rows:]
        if in_row[own_row] == raising or in_col[own_col] != raising:
            continue
        others = [divmod(e, cols) for e in range(rows * cols) if e != cell and is_hidden(hidden, e)]
        if any(in_row[r] and not in_col[c] for r, c in others):
            continue
        width = sum(cells[r * cols + c] for r, c in others if in_col[c] and not in_row[r])
        if narrowest is None or width < narrowest:
            narrowest = width
    return narrowest


def audit_by_cuts(rows, cols, hidden, cells):
    """The answer of audit, by the narrowest cuts; for tables too great to be counted out."""
    answer = [0]
    for e in range(rows * cols):
        if is_hidden(hidden, e):
            answer.append(max(0, cells[e] - narrowest_cut(rows, cols, hidden, cells, e, False)))
            answer.append(cells[e] + narrowest_cut(rows, cols, hidden, cells, e, True))
        else:
            answer.extend([cells[e], cells[e]])
    return answer
