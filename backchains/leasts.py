"""The least numbers T(n, c), for n up to 60 and c up to 20."""

MOST_STEPS = 60
MOST_SLOTS = 20


def least_columns():
    """T(n, c) at index n of the list at index c - 1."""
    columns = [[n * (n - 1) // 2 for n in range(MOST_STEPS + 1)]]
    while len(columns) < MOST_SLOTS:
        columns.append(column_behind(columns[-1]))
    return columns


def column_behind(before):
    """The column of one slot more."""
    column = [0, 0]
    for n in range(2, MOST_STEPS + 1):
        column.append(min(costs(n, before, column)))
    return column


def costs(n, before, column):
    """For each m from 1 to n - 1, the steps forward where the chain of n is parted at m."""
    return [m + before[n - m] + column[m] for m in range(1, n)]


def parted_at(n, c, columns):
    """The least m at which parting a chain of n with c slots costs least; n and c are 2 or more."""
    steps = costs(n, columns[c - 2], columns[c - 1])
    return 1 + steps.index(min(steps))


def most_steps(c, t, columns):
    """The greatest n for which T(n, c) is at most t; t is 0 or more."""
    return max([n for n in range(MOST_STEPS + 1) if columns[c - 1][n] <= t])


def fewest_slots(n, t, columns):
    """The least c for which T(n, c) is at most t, 0 if there is none."""
    for before, column in enumerate(columns):
        if column[n] <= t:
            return before + 1
    return 0
