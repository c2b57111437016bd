"""A plan's steps: how a sheet is folded and cut until one pile of leaves is left.

What lies there is a list of rows, a row is a list of stacks, a stack is a list of leaves from the top.
"""

FIRST_UNDER = 4
FIRST_CUT = 8


class Leaf:
    def __init__(self, row, column, back_up, head_below):
        self.row = row
        self.column = column
        self.back_up = back_up
        self.head_below = head_below


def is_fold(step):
    return step < FIRST_CUT


def is_sideways(step):
    return step % 4 < 2


def moves_first_half(step):
    return step % 2 == 0


def sheet_row(row, columns):
    return [[Leaf(row, column, 0, 0)] for column in range(columns)]


def whole_sheet(rows, columns):
    return [sheet_row(row, columns) for row in range(rows)]


def column_of(lying, column):
    return [row[column] for row in lying]


def rows_for_columns(lying):
    return [column_of(lying, column) for column in range(len(lying[0]))]


def turned_leaf(leaf, sideways):
    head_below = leaf.head_below if sideways else 1 - leaf.head_below
    return Leaf(leaf.row, leaf.column, 1 - leaf.back_up, head_below)


def turned_stack(stack, sideways):
    return [turned_leaf(leaf, sideways) for leaf in reversed(stack)]


def turned_row(row, sideways):
    return [turned_stack(stack, sideways) for stack in row]


def turned_half(half, sideways):
    return [turned_row(row, sideways) for row in reversed(half)]


def row_upon(upper, lower):
    return [above + below for above, below in zip(upper, lower)]


def half_upon(upper, lower):
    return [row_upon(above, below) for above, below in zip(upper, lower)]


def halved_by_rows(lying, step):
    middle = len(lying) // 2
    moved = lying[:middle] if moves_first_half(step) else lying[middle:]
    staying = lying[middle:] if moves_first_half(step) else lying[:middle]
    if is_fold(step):
        moved = turned_half(moved, is_sideways(step))
    if FIRST_UNDER <= step < FIRST_CUT:
        return half_upon(staying, moved)
    return half_upon(moved, staying)


def after_step(lying, step):
    """Give what lies there behind the step, or None if what it halves isn't even."""
    rows = rows_for_columns(lying) if is_sideways(step) else lying
    if len(rows) % 2 != 0:
        return None
    halved = halved_by_rows(rows, step)
    return rows_for_columns(halved) if is_sideways(step) else halved


def pile_of(rows, columns, steps):
    """Give the pile's leaves from the top, or None if the plan doesn't come to one place."""
    lying = whole_sheet(rows, columns)
    for step in steps:
        lying = after_step(lying, step)
        if lying is None:
            return None
    if len(lying) != 1 or len(lying[0]) != 1:
        return None
    return lying[0][0]
