"""The search for the greatest number that will do."""


def greatest(limit, will_do):
    """Give the greatest number from 0 to limit that will do.

    0 must do, and each number below one that does.
    """
    low = 0
    high = limit
    while low < high:
        middle = (low + high + 1) // 2
        if will_do(middle):
            low = middle
        else:
            high = middle - 1
    return low
