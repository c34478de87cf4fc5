"""Reckoning on the pieces' grams, as they lie. The lists handed in are never changed."""


def weigh_sets(pieces):
    """Tell what each set weighs, at the place that is the set's number."""
    weights = [0]
    for grams in pieces:
        # The sets with piece i stand 2^i places behind the same sets without it, and 2^i is how many there are so far.
        weights = weights + [weight + grams for weight in weights]
    return weights


def count_sets(pieces):
    """Tell how many pieces each set has, at the place that is the set's number."""
    return weigh_sets([1] * len(pieces))


def best_set(pieces, least):
    """Tell the weight, the count of pieces and the number of the best set; all must weigh least or more."""
    weights = weigh_sets(pieces)
    counts = count_sets(pieces)
    # The least of these tuples is the best set: by weight, then by pieces, then by number.
    return min([(weights[s], counts[s], s) for s in range(len(weights)) if weights[s] >= least])


def fewest_pieces(pieces, least):
    """Tell how few of the heaviest pieces weigh least or more, and what they weigh; all must weigh that much."""
    count = 0
    weight = 0
    for grams in sorted(pieces, reverse=True):
        if weight >= least:
            break
        count = count + 1
        weight = weight + grams
    return (count, weight)


def most_pieces(pieces, limit):
    """Tell how many of the lightest pieces weigh no more than limit, and what they weigh."""
    count = 0
    weight = 0
    for grams in sorted(pieces):
        if weight + grams > limit:
            break
        count = count + 1
        weight = weight + grams
    return (count, weight)


def heaviest_within(pieces, limit):
    """Tell the greatest weight of a set that is no more than limit."""
    # The set of no pieces weighs 0, so there is always one to choose from.
    return max([weight for weight in weigh_sets(pieces) if weight <= limit])


def part_by_set(pieces, chosen):
    """Part the pieces into those of the set and the others, both as they lay."""
    inside = []
    outside = []
    rest = chosen
    for grams in pieces:
        if rest % 2 == 1:
            inside.append(grams)
        else:
            outside.append(grams)
        rest = rest // 2
    return (inside, outside)


def weigh_row(pieces, wanted):
    """Tell what each basket weighs if one best set after another is packed; wanted must be 1 or more."""
    row = []
    left = pieces
    while sum(left) >= wanted:
        found = best_set(left, wanted)
        row.append(found[0])
        left = part_by_set(left, found[2])[1]
    return row
