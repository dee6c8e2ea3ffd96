import unittest

from tests.helper import BOARD, PASS, UNDO, ask, begin, last_view, picture, play, view


class Board(unittest.TestCase):
    def test_it_answers_366_numbers_for_every_size(self):
        for n in range(2, 20):
            self.assertEqual(len(ask(begin(n), play(0, 0), BOARD)[2]), 366, n)

    def test_the_numbers_stand_in_the_order_that_is_told(self):
        # Three turns, white's turn, not at the end, no black and one white stone taken off.
        points = [0, 1, 0, 1, 0, 0, 0, 0, 0] + [0] * 352
        given = ask(begin(3), play(1, 0), play(0, 0), play(0, 1), BOARD)[-1]
        self.assertEqual(given, [3] + points + [2, 0, 0, 1])

    def test_black_and_white_stones_taken_off_stand_apart(self):
        given = ask(begin(3), PASS, play(1, 0), play(0, 0), play(0, 1), BOARD)[-1]
        self.assertEqual(given[362:], [1, 0, 1, 0])

    def test_rows_of_the_smallest_board(self):
        given = last_view(begin(2), play(1, 0), play(0, 1))
        self.assertEqual(given["points"], [0, 1, 2, 0] + [0] * 357)

    def test_rows_of_the_largest_board(self):
        given = last_view(begin(19), play(18, 0), play(0, 1), play(18, 18))
        points = [0] * 361
        points[18] = 1
        points[19] = 2
        points[360] = 1
        self.assertEqual(given["points"], points)

    def test_every_point_has_its_place(self):
        for n in (2, 3, 7, 18, 19):
            for x in range(n):
                for y in range(n):
                    points = last_view(begin(n), play(x, y))["points"]
                    self.assertEqual([k for k in range(361) if points[k]], [y * n + x])

    def test_whose_turn_it_is(self):
        calls = [play(0, 0), PASS, play(2, 2), play(1, 2), UNDO, PASS, play(0, 0), play(2, 0)]
        turns = [2, 1, 2, 1, 2, 1, 1, 2]
        given = ask(begin(5), *[call for turn in calls for call in (turn, BOARD)])
        self.assertEqual([view(part)["turn"] for part in given[2::2]], turns)

    def test_the_turns_are_counted(self):
        calls = [play(0, 0), PASS, play(0, 0), play(9, 9), play(2, 2), UNDO, UNDO, UNDO, UNDO]
        counts = [1, 2, 2, 2, 3, 2, 1, 0, 0]
        given = ask(begin(5), *[call for turn in calls for call in (turn, BOARD)])
        self.assertEqual([part[0] for part in given[2::2]], counts)

    def test_the_end(self):
        calls = [PASS, PASS, PASS, UNDO, play(0, 0), PASS, PASS]
        ends = [0, 1, 1, 0, 0, 0, 1]
        given = ask(begin(5), *[call for turn in calls for call in (turn, BOARD)])
        self.assertEqual([view(part)["end"] for part in given[2::2]], ends)

    def test_whose_turn_it_is_at_the_end(self):
        self.assertEqual(last_view(begin(5), PASS, PASS)["turn"], 1)
        self.assertEqual(last_view(begin(5), play(0, 0), PASS, PASS)["turn"], 2)

    def test_the_board_after_undo(self):
        given = last_view(begin(3), play(1, 0), play(0, 0), play(0, 1), UNDO)
        self.assertEqual(given, {"turns": 2, "points": picture("OX. ... ..."), "turn": 1,
                                 "end": 0, "black": 0, "white": 0})

    def test_asking_changes_nothing(self):
        given = ask(begin(3), BOARD, BOARD, play(1, 1), BOARD, BOARD, UNDO, BOARD, BOARD)
        self.assertEqual(given[1], given[2])
        self.assertEqual(given[4], given[5])
        self.assertEqual([given[7], given[8]], [given[1], given[1]])


if __name__ == "__main__":
    unittest.main()
