"""How forms are made in a table.

Each function adds to the table just the parts that its call comes to, so NoRoom is raised only where it's due.
"""

from gameworth.table import LEFT, RIGHT


def zero_form(table):
    return table.form_of([], [])


# A number below 0 is made with the sides swapped, not as minus another, whose parts would need room too.
def swapped_form(table, swapped, lefts, rights):
    if swapped:
        return table.form_of(rights, lefts)
    return table.form_of(lefts, rights)


# m / 2^k: whole numbers up to it, then the middles on the way to it. All of these are parts of it, so that
# even a huge m ends after a table's worth of steps.
def number_form(table, m, k):
    swapped = m < 0
    whole = abs(m) >> k
    rest = abs(m) - (whole << k)
    low = zero_form(table)
    for step in range(whole):
        low = swapped_form(table, swapped, [low], [])
    if rest == 0:
        return low
    high = swapped_form(table, swapped, [low], [])
    width = 1 << k
    while rest > 0:
        width = width // 2
        middle = swapped_form(table, swapped, [low], [high])
        if rest < width:
            high = middle
        else:
            low = middle
            rest -= width
    return low


def heap_form(table, n):
    heap = zero_form(table)
    smaller = []
    for step in range(n):
        smaller.append(heap)
        heap = table.form_of(smaller, smaller)
    return heap


def minus_form(table, game):
    turned = {}
    for part in table.parts_of(game):
        lefts = [turned[option.bit] for option in part.rows[RIGHT]]
        rights = [turned[option.bit] for option in part.rows[LEFT]]
        turned[part.bit] = table.form_of(lefts, rights)
    return turned[game.bit]


# All sums of a part of a and a part of b, since the call comes to all of them; the one of a and b is the last.
def sum_form(table, a, b):
    parts_of_b = table.parts_of(b)
    for x in table.parts_of(a):
        for y in parts_of_b:
            pair = x.bit | y.bit
            if pair not in table.sums:
                lefts = sum_options(table, LEFT, x, y)
                rights = sum_options(table, RIGHT, x, y)
                table.sums[pair] = table.form_of(lefts, rights)
    return table.sums[a.bit | b.bit]


def sum_options(table, side, x, y):
    moves_in_x = [table.sums[option.bit | y.bit] for option in x.rows[side]]
    moves_in_y = [table.sums[x.bit | option.bit] for option in y.rows[side]]
    return moves_in_x + moves_in_y
