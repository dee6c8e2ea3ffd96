"""Each colour's area: its stones, and the empty points that reach it alone."""

from stonesgame.chains import BLACK, EMPTY, WHITE, all_parts


def colours_beside(stones, beside, part):
    """The colours of the stones beside a part, each of them once."""
    reached = {}
    for point in part:
        for step in beside[point]:
            if stones[step] != EMPTY:
                reached[stones[step]] = True
    return list(reached)


def areas(stones, beside):
    """How many points each colour's area has, by the colour."""
    sizes = {BLACK: stones.count(BLACK), WHITE: stones.count(WHITE)}
    # The points of one empty part all reach the same colours.
    for part in all_parts(stones, beside, (EMPTY,)):
        reached = colours_beside(stones, beside, part)
        if len(reached) == 1:
            sizes[reached[0]] += len(part)
    return sizes
