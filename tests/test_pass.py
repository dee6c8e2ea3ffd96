import unittest

from tests.helper import BOARD, PASS, UNDO, ask, begin, drawn, first_numbers, last_view, long_game, picture, play


class Pass(unittest.TestCase):
    def test_a_pass_is_a_turn_and_leaves_the_board(self):
        view = last_view(begin(3), play(1, 1), PASS)
        self.assertEqual(view["turns"], 2)
        self.assertEqual(view["turn"], 1)
        self.assertEqual(view["end"], 0)
        self.assertEqual(view["points"], picture("... .X. ..."))

    def test_the_other_plays_behind_a_pass(self):
        self.assertEqual(last_view(begin(3), PASS, play(0, 0))["points"], picture("O.. ... ..."))

    def test_a_pass_is_not_refused_for_a_board_that_stays_as_it_is(self):
        # -7 speaks of what a stone makes of the board: else no pass could ever be taken.
        self.assertEqual(first_numbers(begin(2), PASS), [0, 0])
        self.assertEqual(first_numbers(begin(2), play(0, 0), PASS, play(1, 1), PASS), [0] * 5)

    def test_a_pass_can_be_taken_where_no_play_can(self):
        # Black has no point left: at (1, 0) it would have no liberty.
        calls = [begin(2), PASS, play(0, 0), PASS, play(0, 1), PASS, play(1, 1)]
        given = first_numbers(*calls, play(0, 0), play(1, 1), PASS, play(1, 0), PASS)
        self.assertEqual(given[:7], [0] * 7)
        self.assertEqual(given[7:], [-5, -5, 0, -6, 0])

    def test_two_passes_one_behind_the_other_end_the_game(self):
        for calls in ([PASS, PASS], [play(0, 0), PASS, PASS], [play(0, 0), play(1, 1), PASS, PASS]):
            view = last_view(begin(3), *calls)
            self.assertEqual(view["end"], 1)
            self.assertEqual(view["turns"], len(calls))
            given = first_numbers(begin(3), *calls, PASS, play(2, 2))
            self.assertEqual(given[-2:], [-3, -3])

    def test_passes_with_a_play_between_do_not_end_the_game(self):
        calls = [begin(5), PASS, play(0, 0), PASS, play(1, 1), play(2, 2), PASS, play(3, 3), PASS]
        self.assertEqual(first_numbers(*calls), [0] * 9)
        self.assertEqual(last_view(*calls)["end"], 0)

    def test_a_refused_play_between_two_passes_is_no_turn(self):
        calls = [begin(3), play(0, 0), PASS, play(0, 0), PASS]
        self.assertEqual(first_numbers(*calls), [0, 0, 0, -5, 0])
        self.assertEqual(last_view(*calls)["end"], 1)

    def test_1024_turns(self):
        given = first_numbers(begin(19), *long_game(), PASS, UNDO, PASS, PASS)
        self.assertEqual(given[-4:], [-4, 0, 0, -3])

    def test_the_end_comes_before_1024_turns(self):
        given = ask(begin(19), *long_game()[:1022], PASS, PASS, PASS, BOARD)
        self.assertEqual(given[-4:-1], [[0], [0], [-3]])
        self.assertEqual((given[-1][0], given[-1][363]), (1024, 1))

    def test_1024_turns_alone_are_no_end(self):
        self.assertEqual(last_view(begin(19), *long_game())["end"], 0)

    def test_a_pass_leaves_a_board_that_was_there_forbidden(self):
        # White takes in the ko, black passes, white plays elsewhere, black may take again:
        # the board differs by one stone. Then white may not take back.
        text = ".XO. X.XO .XO. ...."
        given = first_numbers(begin(4), *drawn(text, 2), play(1, 1), PASS, play(0, 3), play(2, 1), play(1, 1))
        self.assertEqual(given[-5:], [0, 0, 0, 0, -7])


if __name__ == "__main__":
    unittest.main()
