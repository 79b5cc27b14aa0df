"""Moves of machines with integers as weights."""


def weights_of(machine):
    """All weights of the moves in one list."""
    return [weight for parts in machine.moves for rows in parts for row in rows for weight in row]


def leading(rows, ahead, bottom):
    """For each state the states that lead to it, with as many ahead of them, and their weights times the bottom."""
    return [
        [
            (ahead + here, row[there].num * (bottom // row[there].den))
            for here, row in enumerate(rows)
            if row[there].num != 0
        ]
        for there in range(len(rows))
    ]


def next_numbers(numbers, columns):
    """The numbers of the states behind a move, times the bottom, by what leads to each state."""
    return [sum([numbers[here] * weight for here, weight in column]) for column in columns]
