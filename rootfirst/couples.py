"""Couples of small trees, in the order of the sum of their sizes, and then of the first one's size."""

from rootfirst.machines import children_by_size


def trees_by_size(arities, most):
    """Returns a list with the list of the trees of each size from 0 to the most, in order."""
    rows = [[]]
    for size in range(1, most + 1):
        row = []
        for symbol, arity in enumerate(arities):
            row.extend([(symbol,) + chosen for chosen in children_by_size(rows, arity, size - 1)])
        # Of one size, trees are in order as tuples are.
        rows.append(sorted(row))
    return rows


def sizes_in_order(most):
    """Returns the list of the pairs of sizes up to the most, in order."""
    return [
        (size, total - size)
        for total in range(2, 2 * most + 1)
        for size in range(max(1, total - most), min(most, total - 1) + 1)
    ]
