import unittest

from tests.helper import BOARD, PASS, UNDO, ask, begin, drawn, first_numbers, last_view, long_game, play

KO = ".XO. X.XO .XO. ...."
CORNER_TAKES_TWO = ".XO. XO.. O... ...."


class Undo(unittest.TestCase):
    def check_taken_back(self, n, before, turn):
        """The board behind a turn that was taken back is the one ahead of it."""
        given = ask(begin(n), *before, BOARD, turn, BOARD, UNDO, BOARD)[-5:]
        self.assertEqual(given[1], [0])
        self.assertNotEqual(given[2], given[0])
        self.assertEqual(given[3], [0])
        self.assertEqual(given[4], given[0])

    def test_there_has_been_no_turn(self):
        self.assertEqual(first_numbers(begin(2), UNDO), [0, -3])
        self.assertEqual(first_numbers(begin(19), UNDO, UNDO, play(0, 0), UNDO, UNDO), [0, -3, -3, 0, 0, -3])

    def test_a_refused_turn_is_no_turn(self):
        self.assertEqual(first_numbers(begin(2), play(2, 2), UNDO), [0, -2, -3])

    def test_a_refused_undo_leaves_all_as_it_was(self):
        given = ask(begin(5), BOARD, UNDO, BOARD, play(1, 1))
        self.assertEqual(given[2], [-3])
        self.assertEqual(given[3], given[1])
        self.assertEqual(given[4], [0])

    def test_a_play_is_taken_back(self):
        self.check_taken_back(5, [], play(2, 2))
        self.check_taken_back(5, [play(1, 1)], play(2, 2))
        self.check_taken_back(5, [play(1, 1), PASS], play(2, 2))

    def test_a_play_is_taken_back_with_what_it_took_off(self):
        self.check_taken_back(4, drawn(CORNER_TAKES_TWO, 2), play(0, 0))
        self.check_taken_back(5, [play(1, 0), play(0, 0)], play(0, 1))
        self.check_taken_back(19, long_game()[:720], play(18, 18))

    def test_only_what_that_play_took_off_comes_back(self):
        calls = [play(1, 0), play(0, 0), play(0, 1), play(4, 0), play(3, 0), play(3, 4)]
        self.check_taken_back(5, calls, play(4, 1))
        view = last_view(begin(5), *calls, play(4, 1), UNDO)
        self.assertEqual((view["black"], view["white"]), (0, 1))
        view = last_view(begin(5), *calls, play(4, 1), UNDO, UNDO, UNDO, UNDO, UNDO)
        self.assertEqual((view["black"], view["white"]), (0, 0))

    def test_a_pass_is_taken_back(self):
        self.check_taken_back(5, [], PASS)
        self.check_taken_back(5, [play(2, 2)], PASS)

    def test_the_end_is_taken_back(self):
        self.check_taken_back(5, [play(0, 0), PASS], PASS)
        given = first_numbers(begin(5), PASS, PASS, play(0, 0), UNDO, play(0, 0), UNDO, PASS, PASS)
        self.assertEqual(given, [0, 0, 0, -3, 0, 0, 0, 0, -3])

    def test_passes_that_were_taken_back_do_not_end_the_game(self):
        self.assertEqual(last_view(begin(5), PASS, UNDO, PASS)["end"], 0)
        self.assertEqual(last_view(begin(5), PASS, PASS, UNDO, UNDO, PASS)["end"], 0)
        # With the play between taken back, the passes are one behind the other.
        self.assertEqual(last_view(begin(5), PASS, play(1, 1), UNDO, PASS)["end"], 1)

    def test_all_turns_are_taken_back_one_by_one(self):
        turns = [play(1, 0), play(0, 0), play(0, 1), PASS, play(4, 4), play(3, 3), PASS, PASS]
        ahead = [last_view(begin(5), *turns[:k]) for k in range(len(turns) + 1)]
        back = [last_view(begin(5), *turns, *[UNDO] * k) for k in range(len(turns) + 1)]
        self.assertEqual(back, ahead[::-1])
        self.assertEqual(first_numbers(begin(5), *turns, *[UNDO] * 9)[-2:], [0, -3])

    def test_a_long_game_is_taken_back(self):
        given = ask(begin(19), *long_game()[:959], *[UNDO] * 960, BOARD)
        self.assertEqual(given[-2:], [[-3], [0] + [0] * 361 + [1, 0, 0, 0]])
        self.assertEqual(given[-3], [0])
        given = first_numbers(begin(19), *long_game(), PASS, UNDO, UNDO, play(18, 18), BOARD)
        self.assertEqual(given[-5:], [-4, 0, 0, -5, 1022])


class BoardsTakenBack(unittest.TestCase):
    def test_a_board_that_was_only_in_a_turn_taken_back_may_come(self):
        self.assertEqual(first_numbers(begin(3), play(1, 1), UNDO, play(1, 1)), [0, 0, 0, 0])
        given = first_numbers(begin(4), *drawn(KO, 2), play(1, 1), UNDO, play(1, 1), play(2, 1))
        self.assertEqual(given[-4:], [0, 0, 0, -7])

    def test_the_same_board_by_another_order_of_turns(self):
        turns = [play(0, 0), play(1, 1), play(2, 2), UNDO, UNDO, UNDO, play(2, 2), play(1, 1), play(0, 0)]
        self.assertEqual(first_numbers(begin(3), *turns), [0] * 10)

    def test_a_board_that_was_there_before_stays_forbidden(self):
        turns = [play(0, 0), play(1, 0), play(0, 1), play(1, 1), play(0, 0), play(0, 1)]
        given = first_numbers(begin(2), *turns, play(0, 0), UNDO, UNDO, play(0, 0), play(0, 1), play(0, 0))
        self.assertEqual(given, [0] * 7 + [-7, 0, 0, 0, 0, -7])

    def test_a_pass_taken_back_does_not_free_the_board_it_stood_on(self):
        # After turn 1 white passes and takes that back; the board of turn 1 has still been there.
        turns = [play(0, 0), PASS, UNDO, play(1, 0), play(0, 1), play(1, 1), play(0, 0), play(0, 1), play(0, 0)]
        self.assertEqual(first_numbers(begin(2), *turns), [0] * 9 + [-7])

    def test_a_pass_on_the_first_board_taken_back(self):
        given = first_numbers(begin(2), PASS, UNDO, UNDO, PASS, play(0, 0), UNDO, UNDO, play(0, 0), UNDO, UNDO)
        self.assertEqual(given, [0, 0, 0, -3, 0, 0, 0, 0, 0, 0, -3])


if __name__ == "__main__":
    unittest.main()
