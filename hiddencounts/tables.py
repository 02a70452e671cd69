"""Tables of counts with some cells hidden, and what the sums give away of these.

The lines of a table are its rows and its columns, numbered together: the rows
first, then the columns. A cell is where a row and a column cross.
"""

NOT_AS_TOLD = -22
TOO_MANY_CELLS = -28
NEVER_SAFE = -33
FEWEST_LINES = 2
MOST_LINES = 5
GREATEST_COUNT = 10000
LEAST_K = 2
GREATEST_K = 20
LEAST_W = 1
GREATEST_W = 100
MOST_CELLS_FOR_BEST = 12


def audit(rows, cols, hidden, cells):
    """0, and of each cell its least and its most; or -22 alone."""
    if not is_table(rows, cols, cells) or not is_hiding(rows, cols, hidden):
        return [NOT_AS_TOLD]
    answer = [0]
    for cell in range(rows * cols):
        answer.append(least_of(rows, cols, hidden, cells, cell))
        answer.append(most_of(rows, cols, hidden, cells, cell))
    return answer


def safe(rows, cols, hidden, k, w, cells):
    """0 if the table is safe, else 1 more than the first cell that makes it unsafe; or -22."""
    if not is_table(rows, cols, cells) or not is_hiding(rows, cols, hidden):
        return [NOT_AS_TOLD]
    if not is_k(k) or not is_w(w):
        return [NOT_AS_TOLD]
    return [first_not_kept(rows, cols, hidden, k, w, cells)]


def best(rows, cols, k, w, cells):
    """How many cells are to be hidden so that the table is safe, and which; or -22, -28 or -33 alone."""
    if not is_table(rows, cols, cells) or not is_k(k) or not is_w(w):
        return [NOT_AS_TOLD]
    if rows * cols > MOST_CELLS_FOR_BEST:
        return [TOO_MANY_CELLS]
    if first_not_kept(rows, cols, everything(rows, cols), k, w, cells) != 0:
        # With more hidden no bounds are narrower: where all hidden isn't safe, nothing is.
        return [NEVER_SAFE]
    hidden = best_hiding(rows, cols, k, w, cells)
    return [len(hidden_counts(hidden, cells)), hidden]


def is_table(rows, cols, cells):
    """Whether rows, cols and cells make a table as it must be."""
    if not is_side(rows) or not is_side(cols):
        return False
    if len(cells) != rows * cols:
        return False
    return max(cells) <= GREATEST_COUNT


def is_side(number):
    """Whether a table may have so many rows, or so many columns."""
    return FEWEST_LINES <= number and number <= MOST_LINES


def is_hiding(rows, cols, hidden):
    """Whether each bit of hidden is of a cell."""
    return hidden >> (rows * cols) == 0


def is_k(number):
    """Whether counts below this number may be asked to be kept."""
    return LEAST_K <= number and number <= GREATEST_K


def is_w(number):
    """Whether the most of a cell may be asked to be so far above its least."""
    return LEAST_W <= number and number <= GREATEST_W


def is_small(k, count):
    """Whether somebody might be known by the count; by 0 nobody is."""
    return 0 < count and count < k


def best_hiding(rows, cols, k, w, cells):
    """The bits of the best of all safe hidings, in a table that is safe with all hidden."""
    small = small_cells(k, cells)
    found = everything(rows, cols)
    for hidden in range(everything(rows, cols)):
        # The bounds take by far the longest, so they are asked last.
        if (hidden & small) == small and is_better(hidden, found, cells):
            if first_not_kept(rows, cols, hidden, k, w, cells) == 0:
                found = hidden
    return found


def everything(rows, cols):
    """The bits of all cells."""
    return (1 << (rows * cols)) - 1


def small_cells(k, cells):
    """The bits of all cells with a small count."""
    small = 0
    for cell in range(len(cells)):
        if is_small(k, cells[cell]):
            small = small + (1 << cell)
    return small


def is_better(hidden, other, cells):
    """Whether hidden is to be told rather than other, if both are safe."""
    return rank_of(hidden, cells) < rank_of(other, cells)


def rank_of(hidden, cells):
    """How many cells are hidden, the sum of their counts, and their bits: in this order less is better."""
    counts = hidden_counts(hidden, cells)
    return (len(counts), sum(counts), hidden)


def hidden_counts(hidden, cells):
    """The counts of the hidden cells."""
    return [cells[cell] for cell in range(len(cells)) if is_hidden(hidden, cell)]


def first_not_kept(rows, cols, hidden, k, w, cells):
    """0 if each small count is kept, else 1 more than the first cell whose small count isn't."""
    for cell in range(rows * cols):
        if is_small(k, cells[cell]) and not is_kept(rows, cols, hidden, w, cells, cell):
            # Counted from 1, so that cell 0 isn't taken for the 0 of a safe table.
            return cell + 1
    return 0


def is_kept(rows, cols, hidden, w, cells, cell):
    """Whether the cell is hidden, and its most at least w above its least."""
    if not is_hidden(hidden, cell):
        return False
    return most_of(rows, cols, hidden, cells, cell) - least_of(rows, cols, hidden, cells, cell) >= w


def is_hidden(hidden, cell):
    """Whether the cell's bit is among those of hidden."""
    return (hidden >> cell) & 1 == 1


def least_of(rows, cols, hidden, cells, cell):
    """The least count of the cell in any counts that agree."""
    if not is_hidden(hidden, cell):
        return cells[cell]
    # What the cell gives up, its row must get elsewhere and its column must lose elsewhere.
    room = room_between(rows, cols, without(hidden, cell), cells, row_of(cols, cell), col_of(rows, cols, cell))
    return max(0, cells[cell] - room)


def most_of(rows, cols, hidden, cells, cell):
    """The greatest count of the cell in any counts that agree."""
    if not is_hidden(hidden, cell):
        return cells[cell]
    room = room_between(rows, cols, without(hidden, cell), cells, col_of(rows, cols, cell), row_of(cols, cell))
    return cells[cell] + room


def without(hidden, cell):
    """The bits of hidden but that of the cell, which is among them."""
    return hidden - (1 << cell)


def row_of(cols, cell):
    """The line that is the cell's row."""
    return cell // cols


def col_of(rows, cols, cell):
    """The line that is the cell's column."""
    return rows + cell % cols


def crossing(rows, cols, line, other):
    """The cell where a row and a column cross, whichever of them comes first."""
    if line < rows:
        return line * cols + other - rows
    return other * cols + line - rows


def lines_across(rows, cols, line):
    """All columns, if the line is a row; else all rows."""
    if line < rows:
        return list(range(rows, rows + cols))
    return list(range(rows))


def room_between(rows, cols, free, cells, start, goal):
    """How much can be moved in all from line to line over the free cells, from start to goal.

    A step from a row to a column raises the cell between them, one from a column
    to a row lowers it, so no sum changes but those of start and goal.
    """
    counts = list(cells)
    room = 0
    way = find_way(rows, cols, free, counts, start, goal)
    while way != []:
        amount = amount_on(rows, cols, counts, way)
        move_along(rows, cols, counts, way, amount)
        room = room + amount
        way = find_way(rows, cols, free, counts, start, goal)
    return room


def find_way(rows, cols, free, counts, start, goal):
    """The lines of a way from start to goal, or none at all if there is no way."""
    # Line by line in the order they are reached: a shortest way is found, and
    # with shortest ways few are needed, however great the counts are.
    came_from = {start: start}
    reached = [start]
    place = 0
    while place < len(reached) and goal not in came_from:
        line = reached[place]
        for other in lines_across(rows, cols, line):
            if other not in came_from and can_step(rows, cols, free, counts, line, other):
                came_from[other] = line
                reached.append(other)
        place = place + 1
    if goal not in came_from:
        return []
    return way_to(came_from, goal)


def can_step(rows, cols, free, counts, line, other):
    """Whether the cell between two lines is free, and can be changed as the step asks."""
    cell = crossing(rows, cols, line, other)
    if not is_hidden(free, cell):
        return False
    # A count can always be raised, but 0 can't be lowered.
    return line < rows or counts[cell] > 0


def way_to(came_from, goal):
    """The way that led to goal, from its start; the start came from itself."""
    way = [goal]
    line = goal
    while came_from[line] != line:
        line = came_from[line]
        way.append(line)
    way.reverse()
    return way


def amount_on(rows, cols, counts, way):
    """How much can be moved along the way before one of its counts is 0."""
    lowered = []
    for place in range(len(way) - 1):
        if way[place] >= rows:
            lowered.append(counts[crossing(rows, cols, way[place], way[place + 1])])
    return min(lowered)


def move_along(rows, cols, counts, way, amount):
    """Change the counts on the way by the amount."""
    for place in range(len(way) - 1):
        cell = crossing(rows, cols, way[place], way[place + 1])
        if way[place] < rows:
            counts[cell] = counts[cell] + amount
        else:
            counts[cell] = counts[cell] - amount
