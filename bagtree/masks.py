"""Sets of points as masks: whole numbers in which the bit of each point of the set is on.

A set that lies inside another one is the lesser number, so counting up meets it first.
"""


def mask_of(points):
    """Tell the mask of the points in a list, in any order."""
    mask = 0
    for point in points:
        mask = mask | (1 << point)
    return mask


def points_of(mask):
    """List the points of the mask, rising."""
    return [point for point in range(mask.bit_length()) if mask >> point & 1]


def size_of(mask):
    """Tell how many points the mask has."""
    return len(points_of(mask))


def around(near, mask):
    """Tell the mask of the points of mask and of those tied with one of them, as near lists them."""
    found = mask
    for point in points_of(mask):
        found = found | mask_of(near[point])
    return found
