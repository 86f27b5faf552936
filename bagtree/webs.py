"""Webs: points, numbered from nought on, and ties between them.

Values are asked for their very kind before anything else is done with them,
so that a thing of any other kind is refused and never acts on its own.
"""

from bagtree.errors import BadWeb

MOST_POINTS = 10


def is_whole(thing):
    """Tell whether thing is a whole number, which True and False are not."""
    return type(thing) == int


def is_below(thing, many):
    """Tell whether thing is a whole number from nought on and below many."""
    return is_whole(thing) and 0 <= thing < many


def is_pair(thing, many):
    """Tell whether thing is a tuple of two numbers below many, the lesser one first."""
    if type(thing) != tuple or len(thing) != 2:
        return False
    low, high = thing
    return is_below(low, many) and is_below(high, many) and low < high


def is_rising(thing, many):
    """Tell whether thing is a list of numbers below many, each greater than the one before it."""
    if type(thing) != list:
        return False
    before = -1
    for number in thing:
        if not is_below(number, many) or number <= before:
            return False
        before = number
    return True


def need_web(many, ties):
    """Refuse with BadWeb what is no web."""
    if not is_whole(many) or not 1 <= many <= MOST_POINTS:
        raise BadWeb("many is no number of points of a web")
    if type(ties) != list:
        raise BadWeb("ties is no list")
    known = set()
    for tie in ties:
        if not is_pair(tie, many):
            raise BadWeb("ties has a thing that is no tie of the web")
        if tie in known:
            raise BadWeb("ties has a tie twice")
        known.add(tie)


def beside(many, ties):
    """List for each point the points tied with it, rising."""
    need_web(many, ties)
    return neighbours(many, ties)


def pieces(many, ties, gone):
    """List the pieces of the web without the points in gone."""
    need_web(many, ties)
    lost = {number for number in gone if is_below(number, many)}
    left = [point for point in range(many) if point not in lost]
    return parts(neighbours(many, ties), left)


def neighbours(many, pairs):
    """List for each number below many the numbers that it makes a pair with, rising."""
    near = [[] for number in range(many)]
    for low, high in pairs:
        near[low].append(high)
        near[high].append(low)
    return [sorted(row) for row in near]


def parts(near, left):
    """List the parts of left, a rising list: the numbers reached from each other by near, inside left.

    Each part is rising, and the parts stand by their least numbers.
    """
    inside = {number: True for number in left}
    placed = set()
    found = []
    for start in left:
        if start not in placed:
            part = part_around(near, inside, start)
            found.append(part)
            for number in part:
                placed.add(number)
    return found


def is_one(near, left):
    """Tell whether the numbers in left are one part by near; no numbers are none."""
    return len(parts(near, left)) == 1


def part_around(near, inside, start):
    """List, rising, the numbers that are reached from start by near, over keys of inside alone."""
    seen = {start}
    waiting = [start]
    while waiting:
        number = waiting.pop()
        for other in near[number]:
            if other in inside and other not in seen:
                seen.add(other)
                waiting.append(other)
    return sorted(seen)
