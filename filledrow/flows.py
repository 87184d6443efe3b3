"""Best amounts of pairs, found path by path, and prices that show that they are best.

Nothing goes unit by unit: along each path as much is moved as can be.
"""

# More than the steps of any path, so that gains count first, and of paths with equal gains the number of steps.
STEPS = 64


def best_amounts(worths, sources, uses, to_the_end):
    """Amounts, by the pairs of a dict of worths, that are worth most and fit two Sides.

    Each path takes a unit from a source to a use that have something left, and may move others on its way.
    The one that gains most goes first, of equal ones the shortest. If to_the_end is True, paths are gone as
    long as there is one, also if they gain nothing.
    """
    amounts = {pair: 0 for pair in worths}
    source_left = {pair[0]: sources[pair[0]] for pair in worths}
    use_left = {pair[1]: uses[pair[1]] for pair in worths}
    path = best_path(worths, amounts, source_left, use_left, to_the_end)
    while path:
        move(path, amounts, source_left, use_left)
        path = best_path(worths, amounts, source_left, use_left, to_the_end)
    return amounts


def best_path(worths, amounts, source_left, use_left, to_the_end):
    """The pairs of the path that gains most, the last one first, by turns more and less; [] if there is none."""
    gains, into_source, into_use = reached(worths, amounts, source_left)
    last = None
    for use in gains:
        if use_left[use] > 0 and (last is None or gains[use] > gains[last]):
            last = use
    if last is None or (gains[last] <= 0 and not to_the_end):
        return []
    path = [into_use[last]]
    while path[-1][0] in into_source:
        path.append(into_source[path[-1][0]])
        path.append(into_use[path[-1][1]])
    return path


def reached(worths, amounts, source_left):
    """What the best path to each use gains, and the pairs by which each source and each use is reached best."""
    at_source = {source: 0 for source in source_left if source_left[source] > 0}
    at_use, into_source, into_use = {}, {}, {}
    changed = True
    while changed:
        changed = False
        for pair in worths:
            source, use = pair
            gain = worths[pair] * STEPS
            if source in at_source and (use not in at_use or at_source[source] + gain - 1 > at_use[use]):
                at_use[use] = at_source[source] + gain - 1
                into_use[use] = pair
                changed = True
            if amounts[pair] > 0 and use in at_use:
                if source not in at_source or at_use[use] - gain - 1 > at_source[source]:
                    at_source[source] = at_use[use] - gain - 1
                    into_source[source] = pair
                    changed = True
    return at_use, into_source, into_use


def move(path, amounts, source_left, use_left):
    """Moves as much as can be along a path."""
    first, last = path[-1][0], path[0][1]
    bounds = [source_left[first], use_left[last], *[amounts[pair] for pair in path[1::2]]]
    most = min([int(bound) for bound in bounds])
    for pair in path[::2]:
        amounts[pair] += most
    for pair in path[1::2]:
        amounts[pair] -= most
    source_left[first] -= most
    use_left[last] -= most


def covering_prices(worths, amounts, sources, most):
    """Prices of sources, from 0, and of uses that cover all worths, with no more than the worth where an amount is.

    most tells for each use a price that it need not exceed. The prices of the sources rise, and those of the
    uses fall, only as far as they must.
    """
    source_prices = {source: 0 for source in sources}
    use_prices = {use: most[use] for use in most}
    changed = True
    while changed:
        changed = False
        for pair in worths:
            source, use = pair
            lacking = worths[pair] - source_prices[source] - use_prices[use]
            if lacking > 0:
                source_prices[source] += lacking
                changed = True
            elif lacking < 0 and amounts[pair] > 0:
                use_prices[use] += lacking
                changed = True
    return source_prices, use_prices
