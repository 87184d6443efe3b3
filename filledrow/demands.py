"""Demands on an order as rows of bars: to be best for all amounts, and to fill as was seen."""


def best_demands(table, pairs, alone):
    """The bars (p, q, r) of pairs that an order breaks which is not best for all amounts.

    Those with q or r alone are among them if alone is True.
    """
    rows = []
    for own in pairs:
        if alone:
            rows.extend([(own, other, None) for other in pairs if meet(own, other) and table[own] < table[other]])
        beside = [other for other in pairs if other[0] == own[0] and other != own]
        across = [other for other in pairs if other[1] == own[1] and other != own]
        rows.extend([(own, q, r) for q in beside for r in across if loses(table, own, q, r)])
    return rows


def meet(one, other):
    """Whether two pairs have a common source or a common use."""
    return one[0] == other[0] or one[1] == other[1]


def loses(table, own, beside, across):
    """Whether a pair and the fourth one are worth less together than two that share its source and its use."""
    return table[own] + table[across[0], beside[1]] < table[beside] + table[across]


def seen_demands(pairs, sources, uses, filling):
    """The bars of pairs that an order breaks which fills these amounts in another way."""
    rows = []
    for own in pairs:
        beside = [pair for pair in filling.pairs if pair[0] == own[0] and pair != own]
        across = [pair for pair in filling.pairs if pair[1] == own[1] and pair != own]
        if filling.by_source[own[0]] < sources[own[0]]:
            beside.append(None)
        if filling.by_use[own[1]] < uses[own[1]]:
            across.append(None)
        rows.extend([(own, q, r) for q in beside for r in across])
    return rows
