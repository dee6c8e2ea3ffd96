"""Which stones live: no play of the other's can ever take them off.

The chains of a colour and the pieces of the board without its stones are told
by their numbers here, in the order in which they were found.
"""

from stonesgame.chains import BLACK, EMPTY, WHITE, all_parts, other

NO_CHAIN = -1

# So many vital pieces keep a chain; with fewer it is left out.
ENOUGH = 2


def chain_numbers(points, chains):
    """For each of so many points the number of its chain, or NO_CHAIN."""
    chain_of = [NO_CHAIN for point in range(points)]
    for number, chain in enumerate(chains):
        for point in chain:
            chain_of[point] = number
    return chain_of


def chains_near(chain_of, beside, point):
    """The chains with a stone beside a point, each of them once."""
    near = []
    for step in beside[point]:
        chain = chain_of[step]
        if chain != NO_CHAIN and chain not in near:
            near.append(chain)
    return near


def chains_round(near, piece):
    """The chains with a stone beside any point of a piece, each of them once."""
    found = {}
    for point in piece:
        for chain in near[point]:
            found[chain] = True
    return list(found)


def chains_kept(stones, near, piece):
    """The chains that a piece is vital to."""
    empty = [point for point in piece if stones[point] == EMPTY]
    if len(empty) == 0:
        return []
    vital = near[empty[0]]
    for point in empty:
        vital = [chain for chain in vital if chain in near[point]]
    return vital


def pieces_by_chain(count, chains_of):
    """Chains told for each piece, turned into pieces told for each chain."""
    pieces = [[] for chain in range(count)]
    for piece, chains in enumerate(chains_of):
        for chain in chains:
            pieces[chain].append(piece)
    return pieces


def chains_left(count, kept, touched):
    """The chains that are left once nothing changes any more.

    For each piece, kept tells the chains that it is vital to, and touched the
    chains that it lies beside.
    """
    vital = [len(pieces) for pieces in pieces_by_chain(count, kept)]
    pieces_beside = pieces_by_chain(count, touched)
    chains_out = [chain for chain in range(count) if vital[chain] < ENOUGH]
    pieces_out = {}
    done = 0
    while done < len(chains_out):
        for piece in pieces_beside[chains_out[done]]:
            if piece in pieces_out:
                continue
            pieces_out[piece] = True
            for chain in kept[piece]:
                vital[chain] -= 1
                # Only the step below ENOUGH counts: each chain goes out once.
                if vital[chain] == ENOUGH - 1:
                    chains_out.append(chain)
        done += 1
    return [chain for chain in range(count) if vital[chain] >= ENOUGH]


def living_chains(stones, beside, colour):
    """The chains of a colour that live, each as its points."""
    chains = all_parts(stones, beside, (colour,))
    pieces = all_parts(stones, beside, (EMPTY, other(colour)))
    chain_of = chain_numbers(len(stones), chains)
    near = [chains_near(chain_of, beside, point) for point in range(len(stones))]
    kept = [chains_kept(stones, near, piece) for piece in pieces]
    touched = [chains_round(near, piece) for piece in pieces]
    return [chains[number] for number in chains_left(len(chains), kept, touched)]


def living_stones(stones, beside):
    """The points of a board with those stones alone that live."""
    living = [EMPTY for point in stones]
    for colour in (BLACK, WHITE):
        for chain in living_chains(stones, beside, colour):
            for point in chain:
                living[point] = colour
    return living
