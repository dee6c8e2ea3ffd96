"""One game: its turns, the boards that it has had, and what was taken off."""

from stonesgame.chains import BLACK, EMPTY, WHITE
from stonesgame.chains import other, points_beside, smothered_beside, smothered_chain

SMALLEST = 2
LARGEST = 19
MOST_TURNS = 1024

DONE = 0
NOT_ON_BOARD = -2
AT_END = -3
NO_TURN_YET = -3
TOO_MANY_TURNS = -4
NOT_EMPTY = -5
NO_LIBERTY = -6
BOARD_TWICE = -7

# Stands in a turn where a play has its point; no point has this number.
PASSED = -1


def is_size(number):
    """Whether a board may have that many points in a row."""
    return number >= SMALLEST and number <= LARGEST


class Game:
    """A game on a board that is size by size, from its first turn on."""

    def __init__(self, size):
        self.size = size
        self.beside = [points_beside(size, point) for point in range(size * size)]
        self.stones = [EMPTY for point in range(size * size)]
        # Each turn is its point and the points whose stones it took off.
        self.turns = []
        # A pass brings no new board, so each board but the first was put in by
        # just one play, and goes out again with it.
        self.boards = {tuple(self.stones): True}
        self.taken_off = {BLACK: 0, WHITE: 0}

    def whose_turn(self):
        """The colour that has the next turn."""
        return BLACK if len(self.turns) % 2 == 0 else WHITE

    def is_on_board(self, x, y):
        """Whether the board has the point (x, y)."""
        return x >= 0 and x < self.size and y >= 0 and y < self.size

    def point_at(self, x, y):
        """Where the point (x, y) of the board stands in the list of its stones."""
        return y * self.size + x

    def is_at_end(self):
        """Whether the last two turns were passes."""
        last = self.turns[-2:]
        return len(last) == 2 and last[0][0] == PASSED and last[1][0] == PASSED

    def turn_refusal(self):
        """Why no turn of any sort can be taken now, or DONE if one can."""
        if self.is_at_end():
            return AT_END
        if len(self.turns) >= MOST_TURNS:
            return TOO_MANY_TURNS
        return DONE

    def play(self, x, y):
        """Take a turn that puts a stone on (x, y), or tell why it can't be."""
        if not self.is_on_board(x, y):
            return NOT_ON_BOARD
        return self.take_turn(self.point_at(x, y))

    def pass_turn(self):
        """Take a turn that is a pass, or tell why it can't be."""
        return self.take_turn(PASSED)

    def take_turn(self, point):
        """Take a turn on a point of the board, or a pass, or tell why it can't be."""
        refusal = self.turn_refusal()
        if refusal != DONE:
            return refusal
        if point == PASSED:
            self.turns.append((PASSED, []))
            return DONE
        if self.stones[point] != EMPTY:
            return NOT_EMPTY
        return self.put_stone(point)

    def put_stone(self, point):
        """Take the turn on an empty point, or tell why the rules forbid it."""
        colour = self.whose_turn()
        # A refused turn must leave the board as it was.
        stones = list(self.stones)
        stones[point] = colour
        taken = smothered_beside(stones, self.beside, point, other(colour))
        for lost in taken:
            stones[lost] = EMPTY
        if len(smothered_chain(stones, self.beside, point)) > 0:
            return NO_LIBERTY
        if tuple(stones) in self.boards:
            return BOARD_TWICE
        self.boards[tuple(stones)] = True
        self.stones = stones
        self.taken_off[other(colour)] += len(taken)
        self.turns.append((point, taken))
        return DONE

    def undo(self):
        """Take the last turn back, or tell that there has been none."""
        if len(self.turns) == 0:
            return NO_TURN_YET
        turn = self.turns.pop()
        if turn[0] != PASSED:
            self.lift_stone(turn[0], turn[1])
        return DONE

    def lift_stone(self, point, taken):
        """Make the board as it was before the play that was just struck out."""
        self.boards.pop(tuple(self.stones))
        # With that play struck out, it is its player's turn again.
        colour = other(self.whose_turn())
        self.stones[point] = EMPTY
        for lost in taken:
            self.stones[lost] = colour
        self.taken_off[colour] -= len(taken)
