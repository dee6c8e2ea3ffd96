"""The points of a board, and what hangs together on it: chains, and other parts.

A board's points are kept in one list, row by row: the point (x, y) of a board
that is size by size stands at y * size + x.
"""

EMPTY = 0
BLACK = 1
WHITE = 2


def other(colour):
    """The colour that is not this one."""
    return WHITE if colour == BLACK else BLACK


def points_beside(size, point):
    """The points beside a point, in its row and in its column."""
    x = point % size
    beside = []
    if x > 0:
        beside.append(point - 1)
    if x < size - 1:
        beside.append(point + 1)
    if point >= size:
        beside.append(point - size)
    if point < size * (size - 1):
        beside.append(point + size)
    return beside


def smothered_chain(stones, beside, start):
    """The points of the chain at start if it has no liberty, else none."""
    colour = stones[start]
    chain = [start]
    found = {start: True}
    done = 0
    while done < len(chain):
        for point in beside[chain[done]]:
            if stones[point] == EMPTY:
                return []
            if stones[point] == colour and point not in found:
                found[point] = True
                chain.append(point)
        done += 1
    return chain


def smothered_beside(stones, beside, start, colour):
    """The points of all chains of a colour beside start that have no liberty."""
    smothered = {}
    for point in beside[start]:
        if stones[point] == colour and point not in smothered:
            for lost in smothered_chain(stones, beside, point):
                smothered[lost] = True
    return list(smothered)


def part_at(stones, beside, start, colours):
    """The points come to from start by steps to points of these colours."""
    part = [start]
    found = {start: True}
    done = 0
    while done < len(part):
        for point in beside[part[done]]:
            if point not in found and stones[point] in colours:
                found[point] = True
                part.append(point)
        done += 1
    return part


def all_parts(stones, beside, colours):
    """All points of these colours, as the parts that they hang together in."""
    found = {}
    parts = []
    for start in range(len(stones)):
        if stones[start] in colours and start not in found:
            part = part_at(stones, beside, start, colours)
            for point in part:
                found[point] = True
            parts.append(part)
    return parts


def liberties(stones, beside, chain):
    """The empty points beside a chain, each of them once."""
    empty = {}
    for stone in chain:
        for point in beside[stone]:
            if stones[point] == EMPTY:
                empty[point] = True
    return list(empty)
