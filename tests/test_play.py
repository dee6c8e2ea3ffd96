import unittest

from tests.helper import BOARD, PASS, UNDO, ask, begin, drawn, first_numbers, last_view, long_game, picture, play

FAR = (-2147483648, -20, -19, -1, 2147483647)

CORNER_TAKES_TWO = """
.XO.
XO..
O...
....
"""

FOUR_CHAINS = """
..O..
.OXO.
OX.XO
.OXO.
..O..
"""

KO = """
.XO.
X.XO
.XO.
....
"""


class Play(unittest.TestCase):
    def after(self, n, text, first, *calls):
        """The first numbers that the calls answer on a drawn board."""
        return first_numbers(begin(n), *drawn(text, first), *calls)[-len(calls):]

    def seen(self, n, text, first, *calls):
        return last_view(begin(n), *drawn(text, first), *calls)

    def test_stones_are_put_in_turn_black_first(self):
        calls = [begin(4), play(0, 0), play(1, 0), play(3, 2)]
        self.assertEqual(first_numbers(*calls), [0, 0, 0, 0])
        self.assertEqual(last_view(*calls)["points"], picture("XO.. .... ...X ...."))

    def test_x_goes_right_and_y_down(self):
        self.assertEqual(last_view(begin(3), play(2, 0), play(0, 1))["points"], picture("..X O.. ..."))

    def test_points_that_are_not_on_the_board(self):
        for n in (2, 9, 19):
            for far in FAR + (n, n + 1, n * n):
                for x, y in ((far, 0), (0, far), (far, far), (n - 1, far), (far, n - 1)):
                    self.assertEqual(first_numbers(begin(n), play(x, y)), [0, -2], (n, x, y))

    def test_a_point_with_a_stone_of_either_colour(self):
        given = first_numbers(begin(5), play(2, 2), play(2, 2), play(1, 1), play(2, 2), play(1, 1))
        self.assertEqual(given, [0, 0, -5, 0, -5, -5])

    def test_a_point_is_empty_again_once_its_stone_is_taken_off(self):
        # White takes black's corner, black plays elsewhere, white fills it.
        calls = [begin(4), play(0, 0), play(1, 0), play(3, 3), play(0, 1), play(3, 2), play(0, 0)]
        self.assertEqual(first_numbers(*calls), [0] * 7)
        self.assertEqual(last_view(*calls)["points"], picture("OO.. O... ...X ...X"))

    def test_one_stone_without_liberty(self):
        self.assertEqual(self.after(3, ".O. O.. ...", 1, play(0, 0)), [-6])
        self.assertEqual(self.after(3, ".X. X.X .X.", 2, play(1, 1)), [-6])
        self.assertEqual(self.after(3, ".X. X.X .X.", 1, play(1, 1)), [0])

    def test_a_longer_chain_without_liberty(self):
        self.assertEqual(self.after(3, "X.O OO. ...", 1, play(1, 0)), [-6])
        self.assertEqual(self.after(3, "X.. OO. ...", 1, play(1, 0)), [0])
        # Joined with two chains of its own that have no other room.
        self.assertEqual(self.after(5, "X.XO. OOO.. ..... ..... .....", 1, play(1, 0)), [-6])

    def test_a_stone_that_joins_a_chain_with_room(self):
        self.assertEqual(self.after(4, ".X.. XO.. .... ....", 1, play(0, 0)), [0])

    def test_one_chain_is_taken_off(self):
        calls = [begin(5), play(1, 0), play(0, 0), play(0, 1)]
        view = last_view(*calls)
        self.assertEqual(view["points"], picture(".X... X...."))
        self.assertEqual((view["black"], view["white"]), (0, 1))

    def test_a_chain_of_several_stones_is_taken_off(self):
        view = self.seen(5, ".XX.. XOOX. .XOX. ..... .....", 1, play(2, 3))
        self.assertEqual(view["points"], picture(".XX.. X..X. .X.X. ..X.. ....."))
        self.assertEqual((view["black"], view["white"]), (0, 3))

    def test_a_chain_with_a_liberty_left_stays(self):
        text = ".XX.. XOO.. .XOX. ..... ....."
        self.assertEqual(self.seen(5, text, 1, play(2, 3))["points"], picture(".XX.. XOO.. .XOX. ..X.. ....."))

    def test_points_at_a_slant_are_no_liberties(self):
        self.assertEqual(self.seen(3, ".X. XO. .X.", 1, play(2, 1))["points"], picture(".X. X.X .X."))

    def test_a_row_end_is_not_beside_the_next_row_s_start(self):
        # White at the right end of row 0 has its liberties at (1, 0) and (2, 1) alone.
        view = last_view(begin(3), play(1, 0), play(2, 0), play(2, 1))
        self.assertEqual(view["points"], picture(".X. ..X ..."))
        # Black at (0, 1) is no neighbour of it, and takes nothing off.
        view = last_view(begin(3), play(1, 0), play(2, 0), play(0, 1))
        self.assertEqual(view["points"], picture(".XO X.. ..."))

    def test_room_is_looked_for_after_the_other_s_chains_are_taken_off(self):
        self.assertEqual(self.after(4, CORNER_TAKES_TWO, 2, play(0, 0)), [0])
        view = self.seen(4, CORNER_TAKES_TWO, 2, play(0, 0))
        self.assertEqual(view["points"], picture("O.O. .O.. O... ...."))
        self.assertEqual((view["black"], view["white"]), (2, 0))

    def test_four_chains_are_taken_off_at_once(self):
        self.assertEqual(self.after(5, FOUR_CHAINS, 2, play(2, 2)), [0])
        view = self.seen(5, FOUR_CHAINS, 2, play(2, 2))
        self.assertEqual(view["points"], picture("..O.. .O.O. O.O.O .O.O. ..O.."))
        self.assertEqual((view["black"], view["white"]), (4, 0))
        self.assertEqual(self.after(5, FOUR_CHAINS, 1, play(2, 2)), [-6])

    def test_one_chain_on_several_sides_is_counted_once(self):
        view = self.seen(5, "OOOX. O.OX. OOOX. XXX.. .....", 1, play(1, 1))
        self.assertEqual(view["points"], picture("...X. .X.X. ...X. XXX.. ....."))
        self.assertEqual((view["black"], view["white"]), (0, 8))

    def test_a_stone_without_room_takes_nothing_off_where_the_other_has_room(self):
        self.assertEqual(self.after(5, "OOOX. O.OX. OOO.. XXX.. .....", 1, play(1, 1)), [-6])

    def test_taken_off_stones_are_added_up_for_each_colour(self):
        view = self.seen(5, "..... .XO.. X.XO. .XO.. .....", 2, play(1, 2), play(4, 0), play(4, 4), play(2, 2))
        self.assertEqual((view["black"], view["white"]), (1, 1))

    def test_the_whole_board_but_one_point_is_taken_off(self):
        view = last_view(begin(19), *long_game()[:721])
        self.assertEqual(view["points"], [0] * 360 + [1])
        self.assertEqual((view["turns"], view["black"], view["white"]), (721, 0, 360))


class NoBoardTwice(unittest.TestCase):
    def test_the_board_of_the_turn_before_last(self):
        given = first_numbers(begin(4), *drawn(KO, 2), play(1, 1), play(2, 1))
        self.assertEqual(given[-2:], [0, -7])

    def test_the_same_place_once_another_stone_is_there(self):
        given = first_numbers(begin(4), *drawn(KO, 2), play(1, 1), play(0, 3), play(3, 3), play(2, 1), play(1, 1))
        self.assertEqual(given[-5:], [0, 0, 0, 0, -7])

    def test_the_board_of_six_turns_before(self):
        turns = [play(0, 0), play(1, 0), play(0, 1), play(1, 1), play(0, 0), play(0, 1), play(0, 0)]
        self.assertEqual(first_numbers(begin(2), *turns), [0] * 7 + [-7])
        boards = ask(begin(2), *[call for turn in turns[:6] for call in (turn, BOARD)])[2::2]
        self.assertEqual(boards[0][1:362], picture("X. .."))
        self.assertEqual(boards[5][1:362], picture(".O OO"))

    def test_whatever_player_s_turn_it_was(self):
        # After turn 2 it was black's turn on this board, after turn 7 it would be white's.
        turns = [play(0, 0), play(1, 0), play(0, 1), PASS, play(1, 1), play(1, 0), play(0, 0)]
        self.assertEqual(first_numbers(begin(2), *turns), [0] * 7 + [-7])
        self.assertEqual(last_view(begin(2), *turns[:2])["points"], picture("XO .."))
        self.assertEqual(last_view(begin(2), *turns[:6])["points"], picture(".O .."))

    def test_a_board_that_was_there_twice_through_a_pass(self):
        turns = [play(0, 0), PASS, play(1, 0), play(0, 1), PASS, play(1, 1), play(0, 0), play(1, 0), play(0, 0)]
        self.assertEqual(first_numbers(begin(2), *turns), [0] * 9 + [-7])


class Order(unittest.TestCase):
    """Where more than one refusal holds, the first of the list is told."""

    def test_not_on_the_board_comes_before_the_end(self):
        given = first_numbers(begin(4), PASS, PASS, play(4, 0), play(0, -1), play(0, 0))
        self.assertEqual(given[-3:], [-2, -2, -3])

    def test_the_end_comes_before_a_stone_on_the_point(self):
        given = first_numbers(begin(4), play(0, 0), PASS, PASS, play(0, 0), play(1, 0))
        self.assertEqual(given[-2:], [-3, -3])

    def test_the_end_comes_before_no_liberty_and_the_board_twice(self):
        given = first_numbers(begin(3), *drawn(".O. O.. ...", 1), PASS, PASS, play(0, 0), UNDO, UNDO, play(0, 0))
        self.assertEqual(given[-4:], [-3, 0, 0, -6])
        given = first_numbers(begin(4), *drawn(KO, 2), play(1, 1), PASS, PASS, play(2, 1), UNDO, UNDO, play(2, 1))
        self.assertEqual(given[-4:], [-3, 0, 0, -7])

    def test_1024_turns(self):
        game = long_game()
        self.assertEqual(len(game), 1024)
        given = first_numbers(begin(19), *game, play(18, 17), PASS, play(19, 0), play(18, 18), play(0, 0), BOARD)
        self.assertEqual(set(given[:1025]), {0})
        self.assertEqual(given[1025:], [-4, -4, -2, -4, -4, 1024])

    def test_the_turn_before_the_last_one_is_taken(self):
        given = first_numbers(begin(19), *long_game()[:1023], play(18, 17), play(18, 16), UNDO, PASS)
        self.assertEqual(given[-4:], [0, -4, 0, 0])

    def test_without_1024_turns_the_same_plays_are_refused_otherwise(self):
        given = first_numbers(begin(19), *long_game()[:1022], play(18, 18), play(0, 0))
        self.assertEqual(given[-2:], [-5, -6])

    def test_the_end_comes_before_1024_turns(self):
        given = first_numbers(begin(19), *long_game()[:1022], PASS, PASS, play(18, 17), PASS, play(0, 19), BOARD)
        self.assertEqual(given[-6:], [0, 0, -3, -3, -2, 1024])

    def test_a_refused_turn_leaves_all_as_it_was(self):
        ko = [begin(4), *drawn(KO, 2), play(1, 1)]
        corner = [begin(3), *drawn(".O. O.. ...", 1)]
        for calls, refused in ((ko, [play(2, 1), play(1, 1), play(4, 4), play(-1, 0)]),
                               (corner, [play(0, 0), play(1, 0), play(0, 3)]),
                               ([begin(2), PASS, PASS], [play(0, 0), PASS, play(2, 2)])):
            given = ask(*calls, BOARD, *[call for play in refused for call in (play, BOARD)])[len(calls):]
            for k in range(len(refused)):
                self.assertEqual(len(given[1 + 2 * k]), 1)
                self.assertLess(given[1 + 2 * k][0], 0)
                self.assertEqual(given[2 + 2 * k], given[0])

    def test_a_refused_board_does_not_count_as_one_that_was_there(self):
        # White's stone at (0, 0) is refused as it has no liberty; black may still play there.
        text = ".X. X.. ..."
        given = first_numbers(begin(3), *drawn(text, 2), play(0, 0), play(2, 2), play(0, 0))
        self.assertEqual(given[-3:], [-6, 0, 0])


if __name__ == "__main__":
    unittest.main()
