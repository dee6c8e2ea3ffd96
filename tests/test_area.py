import unittest

from tests.helper import AREA, BOARD, PASS, UNDO, after, ask, begin, load, long_game, play, record


class Area(unittest.TestCase):
    def check(self, text, black, white):
        self.assertEqual(after(text, 1, AREA), [[0, black, white]], text)
        turned = text.replace("X", "x").replace("O", "X").replace("x", "O")
        self.assertEqual(after(turned, 2, AREA), [[0, white, black]], turned)

    def test_an_empty_board_is_no_one_s(self):
        for n in range(2, 20):
            self.assertEqual(ask(begin(n), AREA)[1], [0, 0, 0])

    def test_with_one_stone_the_whole_board_is_its_colour_s(self):
        for n in range(2, 20):
            self.assertEqual(ask(begin(n), play(n - 1, 0), AREA)[-1], [0, n * n, 0])
            self.assertEqual(ask(begin(n), PASS, play(0, n - 1), AREA)[-1], [0, 0, n * n])

    def test_empty_points_that_reach_both_are_no_one_s(self):
        self.assertEqual(ask(begin(3), play(0, 0), play(2, 2), AREA)[-1], [0, 1, 1])
        self.assertEqual(ask(begin(19), play(0, 0), play(18, 18), AREA)[-1], [0, 1, 1])
        self.check("X.O X.O X.O", 3, 3)

    def test_empty_points_that_reach_one_colour(self):
        self.check(".X.O .X.O .X.O .X.O", 8, 4)
        self.check("..XO. ..XO. ..XO. ..XO. ..XO.", 15, 10)

    def test_each_empty_part_is_looked_at_by_itself(self):
        self.check(".XO.. XXO.. OOOXX ..OX. ..O..", 7, 11)

    def test_a_point_far_from_the_stones_reaches_them(self):
        self.check("..... XXXX. ..... .XXXX ..O..", 8, 1)
        self.check("..... XXXXX ..O.. XXXXX .....", 20, 1)

    def test_steps_at_a_slant_do_not_reach(self):
        self.check(".X... X.... ..... ....O .....", 3, 1)
        self.check(".XO XO. O..", 3, 6)

    def test_a_row_end_is_not_beside_the_next_row_s_start(self):
        self.check("XX. OXX O..", 5, 2)
        self.check(".XX XX. OO.", 5, 2)

    def test_a_stone_that_could_be_taken_counts_as_it_stands(self):
        self.check("XXXXX X...X X.O.X X...X XXXXX", 16, 1)

    def test_after_stones_were_taken_off(self):
        calls = [begin(3), play(1, 0), play(0, 0), AREA, play(0, 1), AREA, UNDO, AREA]
        given = ask(*calls)
        self.assertEqual([given[3], given[5], given[7]], [[0, 1, 1], [0, 9, 0], [0, 1, 1]])
        given = ask(begin(19), *long_game()[:720], AREA, play(18, 18), AREA, UNDO, AREA)
        self.assertEqual([given[-5], given[-3], given[-1]], [[0, 0, 361], [0, 361, 0], [0, 0, 361]])

    def test_at_the_end_of_the_game(self):
        self.assertEqual(ask(begin(4), play(2, 2), PASS, PASS, AREA)[-1], [0, 16, 0])

    def test_after_a_load(self):
        turns = [play(1, 0), play(0, 0), play(0, 1)]
        self.assertEqual(ask(begin(19), load(record(4, turns)), AREA)[-1], [0, 16, 0])
        self.assertEqual(ask(begin(4), load(record(19, turns[:2])), AREA)[-1], [0, 1, 1])
        self.assertEqual(ask(begin(4), play(0, 0), load(record(4, [])), AREA)[-1], [0, 0, 0])

    def test_asking_changes_nothing(self):
        given = ask(begin(3), play(1, 1), BOARD, AREA, BOARD, AREA)
        self.assertEqual(given[4], given[2])
        self.assertEqual(given[5], given[3])


if __name__ == "__main__":
    unittest.main()
