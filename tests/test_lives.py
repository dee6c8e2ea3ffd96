import itertools
import random
import unittest

from stonesgame.chains import points_beside
from stonesgame.life import living_stones
from tests.helper import BOARD, LIVES, PASS, UNDO, after, ask, begin, drawn, load, picture, play, record

# The ring has an eye at (5, 1); in its other piece stands what is asked for.
RING = """
xxxxxxx
x...x.x
x.?.xxx
x...x..
xxxxx..
.......
.......
"""

BOTH_LIVE = """
.X.XO.
XXXXOO
....O.
....OO
....OO
....O.
"""


def other_colours(text):
    return text.translate(str.maketrans("XxOo", "OoXx"))


def columns(n, *places):
    """A board with a chain from top to bottom at each of these places."""
    row = "".join("X" if x in places else "." for x in range(n))
    return " ".join([row] * n)


class Lives(unittest.TestCase):
    def check(self, text):
        """Of a drawn board, just the stones in capital letters live, whatever colour they have."""
        for board in (text, other_colours(text)):
            asked = picture(board.replace("x", ".").replace("o", "."))
            given = after(board.upper(), 1, LIVES)[0]
            self.assertEqual(given, [361 - asked.count(0)] + asked, board)

    def test_no_stones(self):
        for n in range(2, 20):
            self.assertEqual(ask(begin(n), LIVES)[1], [0] * 362)

    def test_one_stone_does_not_live(self):
        for n in range(2, 20):
            self.assertEqual(ask(begin(n), play(0, 0), LIVES)[-1], [0] * 362)
            self.assertEqual(ask(begin(n), PASS, play(n - 1, n - 1), LIVES)[-1], [0] * 362)

    def test_the_count_comes_ahead_of_the_points(self):
        given = after(".X.X XXXX .... ....", 1, LIVES)[0]
        self.assertEqual(given, [6, 0, 1, 0, 1, 1, 1, 1, 1] + [0] * 353)
        given = after(".O.O OOOO .... ....", 1, LIVES)[0]
        self.assertEqual(given, [6, 0, 2, 0, 2, 2, 2, 2, 2] + [0] * 353)
        given = after(".X.. XX.. .... ....", 1, LIVES)[0]
        self.assertEqual(given, [0] * 362)

    def test_a_chain_with_one_vital_piece(self):
        self.check(".x... xx... ..... ..... .....")
        self.check(".xo.. xxo.. oo... ..... .....")

    def test_a_chain_with_two_vital_pieces(self):
        self.check(".X.X. XXXX. ..... ..... .....")
        self.check(".X.Xo XXXXo ooooo ..... .....")
        self.check("XXXXX X...X X...X XXXXX .....")

    def test_a_chain_with_three_vital_pieces(self):
        self.check(".X.X. XXXXX ..... ..... .....")

    def test_the_smallest_board(self):
        self.check("X. .X")
        self.check("xx x.")
        self.check("x. ..")
        self.check("xo ..")

    def test_the_whole_board_but_two_points(self):
        places = [(x, y) for y in range(19) for x in range(19)][1:360]
        turns = [call for x, y in places for call in (play(x, y), PASS)]
        self.assertEqual(ask(begin(19), *turns, LIVES)[-1], [359, 0] + [1] * 359 + [0])

    def test_points_that_hang_together_are_one_piece(self):
        self.check("..x.. xxx.. ..... ..... .....")
        self.check("...x. xxxx. ..... ..... .....")

    def test_points_at_a_slant_are_two_pieces(self):
        self.check(".XX.. X.X.. XXX.. ..... .....")

    def test_a_row_end_is_not_beside_the_next_row_s_start(self):
        self.check("XX. .XX XXX")
        self.check("XX... .XXXX XXXX. ..... .....")

    def test_an_empty_point_that_is_not_beside_the_chain(self):
        self.check(RING.replace("?", "."))

    def test_a_piece_with_a_stone_of_the_other_in_it(self):
        # Where that stone stands there's no empty point that should be beside the chain.
        self.check(RING.replace("x", "X").replace("?", "o"))
        self.check(".o.X. XXXXX ..... ..... .....")
        # Here (0, 0) is beside the other's stone, and not beside the chain.
        self.check(".ox.x .xxxx xx... ..... .....")

    def test_a_piece_with_a_stone_of_the_same_colour_in_it(self):
        # That stone is a chain with no vital piece, and the piece lies beside it.
        self.check(RING.replace("?", "x"))

    def test_a_piece_without_empty_points_is_not_vital(self):
        # No game comes to such a board: the stones in the piece have no liberty.
        for text, count in (("OX.X XXXX .... ....", 0), (".X.X XXXX .... ....", 6), ("OX.X XXXX XXXX ....", 10)):
            stones = picture(text)[:16]
            beside = [points_beside(4, point) for point in range(16)]
            living = living_stones(stones, beside)
            self.assertEqual(living, [1 if count and stone == 1 else 0 for stone in stones])
            self.assertEqual(16 - living.count(0), count)

    def test_two_chains_that_live_only_by_one_another(self):
        self.check(".XX.. X.X.. XX... ..... .....")
        # With the outer piece split, the same chains still need each other.
        self.check(".XXo. X.Xo. XXoo. oo... .....")

    def test_chains_in_a_row_that_live_only_by_one_another(self):
        self.check(columns(3, 1))
        self.check(columns(7, 1, 3, 5))
        self.check(columns(19, *range(1, 19, 2)))

    def test_a_chain_falls_with_another_one_beside_its_piece(self):
        self.check(".x.xo xxxoo ..... ..... .....")
        self.check(".x.x. xxx.. ..... ..... .....")

    def test_chains_fall_one_behind_the_other(self):
        self.check(columns(6, 1, 3).lower())
        self.check(columns(8, 1, 3, 5).lower())
        self.check(columns(8, 2, 4, 6).lower())
        self.check(columns(18, *range(1, 16, 2)).lower())
        self.check(columns(19, *range(2, 17, 2)).lower())

    def test_a_chain_with_room_of_its_own_does_not_fall_with_the_others(self):
        rows = [".X.x.x.."] * 8
        rows[3] = "XX.x.x.."
        self.check(" ".join(rows))
        rows = ["..x.x.X."] * 8
        rows[0] = "..x.x.XX"
        rows[7] = "..x.x.XX"
        rows[4] = "..x.x.XX"
        self.check(" ".join(rows))

    def test_a_piece_that_only_lies_beside_a_chain_left_out(self):
        # The two-eyed chain keeps its eyes: the chain that falls lies beside the outer piece alone.
        self.check(".X.X.x XXXX.. ...... ...... ...... ......")

    def test_a_piece_beside_two_chains_left_out_is_lost_once(self):
        # With (3, 2) lost, the chain still has its two eyes at the top.
        self.check(".X.X.. XXXX.. ..X.x. ...x.. ...... ......")

    def test_both_colours_on_one_board(self):
        self.check(BOTH_LIVE)
        self.check(".X.Xo. XXXXoo oooo.. .....o ...... ......")
        self.check(".X.X.. XXXX.. ...... ...... ..OOOO ..O.O.")

    def test_a_colour_s_stones_within_the_other_s_do_not_trouble_it(self):
        self.check("XXXXXX X.oo.X XXXXXX ...... ...... ......".replace("X", "x"))
        self.check("XXXXXX X.oo.X XXXXXX X....X XXXXXX ......")

    def test_after_stones_were_taken_off_and_after_undo(self):
        text = ".X.X XXXO O.O. ...."
        given = after(text, 1, LIVES, play(3, 2), LIVES, PASS, play(2, 2), LIVES, UNDO, UNDO, UNDO, LIVES)
        self.assertEqual(given[0], [0] * 362)
        self.assertEqual(given[2], after(".X.X XXX. O.OX ....", 1, LIVES)[0])
        self.assertEqual(given[-1], given[0])
        # Black fills (3, 1) behind that and has two eyes.
        given = after(text, 1, play(3, 2), PASS, play(3, 1), LIVES, UNDO, LIVES)
        self.assertEqual(given[3], [7] + picture(".X.X XXXX ...X ...."))
        self.assertEqual(given[5], [0] * 362)

    def test_at_the_end_of_the_game(self):
        self.assertEqual(after(".X.X XXXX .... ....", 2, PASS, PASS, LIVES)[-1], [6] + picture(".X.X XXXX"))

    def test_after_a_load(self):
        small = record(4, drawn(".X.X XXXX .... ....", 1))
        large = record(7, drawn(RING.replace("x", "X").replace("?", "O"), 1))
        given = ask(begin(19), load(small), LIVES, load(large), LIVES, load(small), LIVES)
        self.assertEqual(given[2], [6] + picture(".X.X XXXX"))
        self.assertEqual(given[4], [21] + picture(RING.replace("x", "X").replace("?", ".")))
        self.assertEqual(given[6], given[2])

    def test_asking_changes_nothing(self):
        given = after(BOTH_LIVE, 1, BOARD, LIVES, BOARD, LIVES)
        self.assertEqual(given[2], given[0])
        self.assertEqual(given[3], given[1])


class Siege:
    """One player alone goes on: whether some plays of his take a stone off.

    A board is a tuple of colours here, row by row.
    """

    def __init__(self, n):
        places = [(x, y) for y in range(n) for x in range(n)]
        self.n = n
        self.beside = [[k for k, (u, v) in enumerate(places) if abs(u - x) + abs(v - y) == 1] for x, y in places]

    def chain(self, board, start):
        """A chain, and whether it has a liberty."""
        chain = {start}
        free = False
        wait = [start]
        while wait:
            for step in self.beside[wait.pop()]:
                free = free or board[step] == 0
                if board[step] == board[start] and step not in chain:
                    chain.add(step)
                    wait.append(step)
        return chain, free

    def legal(self, board):
        return all(self.chain(board, point)[1] for point in range(len(board)) if board[point])

    def behind_play(self, board, point, colour):
        """The board behind a play, or None where it can't be."""
        stones = list(board)
        stones[point] = colour
        for step in self.beside[point]:
            if stones[step] == 3 - colour:
                chain, free = self.chain(stones, step)
                for stone in chain if not free else ():
                    stones[stone] = 0
        return tuple(stones) if self.chain(stones, point)[1] else None

    def can_be_taken(self, board, point):
        """Whether the stone at a point can be taken off if only the other plays."""
        colour = board[point]
        seen = {board}
        wait = [board]
        while wait:
            now = wait.pop()
            for place in range(len(now)):
                behind = self.behind_play(now, place, 3 - colour) if now[place] == 0 else None
                if behind is not None and behind[point] == 0:
                    return True
                if behind is not None and behind not in seen:
                    seen.add(behind)
                    wait.append(behind)
        return False

    def living(self, board):
        return [colour if colour and not self.can_be_taken(board, point) else 0 for point, colour in enumerate(board)]


class CanNotBeTakenOff(unittest.TestCase):
    """Just what lives stays, whatever the other plays."""

    def game_to(self, n, board):
        """The record of a game that comes to a board, nothing taken off."""
        places = {1: [], 2: []}
        for point, colour in enumerate(board):
            if colour:
                places[colour].append(play(point % n, point // n))
        turns = []
        while places[1] or places[2]:
            own = places[1 + len(turns) % 2]
            turns.append(own.pop() if own else PASS)
        return record(n, turns)

    def check(self, siege, boards):
        """How many of the boards have stones that live."""
        lived = 0
        # So many boards at a time as one list of calls may hold.
        for start in range(0, len(boards), 100):
            some = boards[start:start + 100]
            calls = [(load(self.game_to(siege.n, board)), LIVES) for board in some]
            given = ask(begin(siege.n), *[call for pair in calls for call in pair])[2::2]
            for k, board in enumerate(some):
                asked = siege.living(board)
                self.assertEqual(given[k][1:1 + len(asked)], asked, board)
                self.assertEqual(given[k][0], len(asked) - asked.count(0), board)
                lived += given[k][0] > 0
        return lived

    def test_all_boards_of_2_and_3(self):
        for n, count in ((2, 57), (3, 12675)):
            siege = Siege(n)
            boards = [board for board in itertools.product((0, 1, 2), repeat=n * n) if siege.legal(board)]
            self.assertEqual(len(boards), count)
            self.assertGreater(self.check(siege, boards), 0)

    def test_some_boards_of_4_and_5(self):
        dice = random.Random(7)
        for n, weights, count in ((4, (4, 9, 1), 150), (4, (5, 5, 5), 50), (5, (4, 12, 1), 60)):
            siege = Siege(n)
            boards = []
            while len(boards) < count:
                board = tuple(dice.choices((0, 1, 2), weights)[0] for point in range(n * n))
                if siege.legal(board) and board.count(0) <= 8:
                    boards.append(board)
            lived = self.check(siege, boards)
            if weights[1] > weights[2]:
                self.assertGreater(lived, 10)
                self.assertLess(lived, count)


if __name__ == "__main__":
    unittest.main()
