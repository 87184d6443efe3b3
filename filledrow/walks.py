"""Walks through a row: each pair, or each name, takes the lesser one of what is left and what is lacking."""


def walk(pairs, sources, uses):
    """For each pair, in order: the pair, what it takes, what its source and its use have left behind it."""
    source_left = {pair[0]: sources[pair[0]] for pair in pairs}
    use_left = {pair[1]: uses[pair[1]] for pair in pairs}
    rows = []
    for pair in pairs:
        source, use = pair
        taken = min(int(source_left[source]), int(use_left[use]))
        source_left[source] = source_left[source] - taken
        use_left[use] = use_left[use] - taken
        rows.append((pair, taken, source_left[source], use_left[use]))
    return rows


def taken_in_turn(row, amount, left):
    """What is taken of the items of a row, above 0: of each, in turn, what is still lacking, or all that is left."""
    taken = {}
    lacking = amount
    for item in row:
        most = min(int(left[item]), int(lacking))
        if most > 0:
            taken[item] = most
            lacking -= most
    return taken
