"""How far each weight reaches: the bound of sizes, the reach, and the least weight that reaches so far."""

MOST_WEIGHT = 60


def pairs_up_to(k, size):
    """Tell how many pairs (i, j) have i + (k - 1) j no more than a size; k is 2 at least."""
    most = size // (k - 1)
    # For each j from 0 to most the i go from 0 to size - (k - 1) j.
    return (most + 1) * (size + 1) - (k - 1) * (most * (most + 1) // 2)


def bound(n, k, m):
    """Tell the least size of more pairs than n places of the weight m ask to come to 0."""
    # With k 1 each size has pairs without end: j counts for nothing.
    if k < 2:
        return 0
    asked = n * m * (m + 1) // 2
    low = 0
    # The pairs (i, 0) alone are more than asked there.
    high = asked
    while low < high:
        middle = (low + high) // 2
        if pairs_up_to(k, middle) > asked:
            high = middle
        else:
            low = middle + 1
    return low


def reach(n, k, m):
    """Tell the least t such that m times t is more than the bound."""
    # No weight below 1 reaches anything; such a one is taken as 1.
    return bound(n, k, m) // max(m, 1) + 1


def weight_for(n, k, t):
    """Tell the least weight whose reach is at most t, or None."""
    for m in range(1, MOST_WEIGHT + 1):
        if reach(n, k, m) <= t:
            return m
    return None
