"""The walk through pairs: each gets the lesser one of what its source and its use have left."""


def walk(pairs, sources, uses):
    """For each pair, in order: the pair, what it takes, what its source and its use have left behind it."""
    source_left = {pair[0]: sources[pair[0]] for pair in pairs}
    use_left = {pair[1]: uses[pair[1]] for pair in pairs}
    rows = []
    for pair in pairs:
        source, use = pair
        taken = min(int(source_left[source]), int(use_left[use]))
        source_left[source] = source_left[source] - taken
        use_left[use] = use_left[use] - taken
        rows.append((pair, taken, source_left[source], use_left[use]))
    return rows
