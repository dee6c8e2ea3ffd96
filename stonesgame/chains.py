"""The points of a board, and the chains of stones that stand on them.

A board's points are kept in one list, row by row: the point (x, y) of a board
that is size by size stands at y * size + x.
"""

EMPTY = 0
BLACK = 1
WHITE = 2


def other(colour):
    """The colour that is not this one."""
    return WHITE if colour == BLACK else BLACK


def points_beside(size, point):
    """The points beside a point, in its row and in its column."""
    x = point % size
    beside = []
    if x > 0:
        beside.append(point - 1)
    if x < size - 1:
        beside.append(point + 1)
    if point >= size:
        beside.append(point - size)
    if point < size * (size - 1):
        beside.append(point + size)
    return beside


def smothered_chain(stones, beside, start):
    """The points of the chain at start if it has no liberty, else none."""
    colour = stones[start]
    chain = [start]
    found = {start: True}
    done = 0
    while done < len(chain):
        for point in beside[chain[done]]:
            if stones[point] == EMPTY:
                return []
            if stones[point] == colour and point not in found:
                found[point] = True
                chain.append(point)
        done += 1
    return chain


def smothered_beside(stones, beside, start, colour):
    """The points of all chains of a colour beside start that have no liberty."""
    smothered = {}
    for point in beside[start]:
        if stones[point] == colour and point not in smothered:
            for lost in smothered_chain(stones, beside, point):
                smothered[lost] = True
    return list(smothered)
