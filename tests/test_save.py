import unittest

from tests.helper import (AREA, BOARD, LIVES, PASS, UNDO, ask, begin, drawn, group, load, long_game, play, record, save)


def saved(*calls):
    """The record that save tells behind the calls, as a text."""
    given = ask(*calls, save(8192))[-1]
    if given[0] != len(given) - 1:
        raise AssertionError(f"{given[0]} bytes told, {len(given) - 1} given")
    return bytes(given[1:]).decode("ascii")


class Save(unittest.TestCase):
    def test_a_game_with_no_turn(self):
        self.assertEqual(ask(begin(9), save(8192))[1], [18, *b"(;FF[4]GM[1]SZ[9])"])
        for n in range(2, 20):
            self.assertEqual(saved(begin(n)), f"(;FF[4]GM[1]SZ[{n}])")

    def test_plays_and_passes(self):
        self.assertEqual(saved(begin(5), play(1, 0)), "(;FF[4]GM[1]SZ[5];B[ba])")
        self.assertEqual(saved(begin(5), PASS), "(;FF[4]GM[1]SZ[5];B[])")
        self.assertEqual(saved(begin(5), PASS, play(0, 4)), "(;FF[4]GM[1]SZ[5];B[];W[ae])")
        self.assertEqual(saved(begin(19), play(18, 0), play(0, 18), PASS, PASS),
                         "(;FF[4]GM[1]SZ[19];B[sa];W[as];B[];W[])")

    def test_every_letter(self):
        for n in (2, 10, 19):
            for k in range(n):
                letter = "abcdefghijklmnopqrs"[k]
                self.assertEqual(saved(begin(n), play(k, 0)), f"(;FF[4]GM[1]SZ[{n}];B[{letter}a])")
                self.assertEqual(saved(begin(n), play(0, k)), f"(;FF[4]GM[1]SZ[{n}];B[a{letter}])")

    def test_refused_turns_are_not_in_it(self):
        calls = [begin(3), play(1, 1), play(1, 1), play(3, 0), play(0, 0)]
        self.assertEqual(saved(*calls), "(;FF[4]GM[1]SZ[3];B[bb];W[aa])")

    def test_stones_that_were_taken_off_are_in_it(self):
        calls = [begin(3), play(1, 0), play(0, 0), play(0, 1)]
        self.assertEqual(saved(*calls), "(;FF[4]GM[1]SZ[3];B[ba];W[aa];B[ab])")

    def test_after_undo(self):
        calls = [begin(3), play(1, 0), play(0, 0), play(0, 1), UNDO]
        self.assertEqual(saved(*calls), "(;FF[4]GM[1]SZ[3];B[ba];W[aa])")
        self.assertEqual(saved(*calls, UNDO, PASS), "(;FF[4]GM[1]SZ[3];B[ba];W[])")
        self.assertEqual(saved(*calls, UNDO, UNDO, UNDO), "(;FF[4]GM[1]SZ[3])")

    def test_after_load(self):
        text = "(;FF[4]GM[1]SZ[5];B[ba];W[aa];B[ab];W[];B[ee])"
        self.assertEqual(saved(begin(19), play(0, 0), load(text)), text)
        self.assertEqual(saved(begin(19), load(text), play(3, 3), PASS), text[:-1] + ";W[dd];B[])")
        self.assertEqual(saved(begin(19), load(text), UNDO, UNDO), "(;FF[4]GM[1]SZ[5];B[ba];W[aa];B[ab])")
        self.assertEqual(saved(begin(19), load(text), load(text + " ")), text)

    def test_most_that_is_not_0_to_8192(self):
        for most in (-2147483648, -8192, -2, -1, 8193, 8194, 10000, 2147483647):
            self.assertEqual(ask(begin(5), save(most))[1], [-2], most)
            self.assertEqual(ask(begin(19), *long_game(), save(most))[-1], [-2], most)

    def test_a_record_that_is_longer_than_most(self):
        for most in (0, 1, 2, 16, 17):
            self.assertEqual(ask(begin(5), save(most))[1], [-1], most)
        for most in (18, 19, 100, 8191, 8192):
            self.assertEqual(ask(begin(5), save(most))[1], [18, *b"(;FF[4]GM[1]SZ[5])"], most)

    def test_just_the_record_s_length_and_one_less(self):
        games = [(2, []), (19, []), (10, [PASS]), (9, [play(8, 8)]), (19, long_game()), (19, long_game()[:700])]
        for n, turns in games:
            text = record(n, turns)
            given = ask(begin(n), *turns, save(len(text) - 1), save(len(text)), save(len(text) + 1))[-3:]
            self.assertEqual(given[0], [-1])
            self.assertEqual(given[1], [len(text), *text.encode()])
            self.assertEqual(given[2], given[1])

    def test_the_longest_game(self):
        text = saved(begin(19), *long_game())
        self.assertEqual(text, record(19, long_game()))
        self.assertEqual(text.count(";"), 1025)

    def test_asking_changes_nothing(self):
        given = ask(begin(3), play(1, 1), BOARD, save(8192), save(5), save(-1), BOARD, save(8192))
        self.assertEqual(given[6], given[2])
        self.assertEqual(given[7], given[3])

    def test_what_save_tells_brings_the_same_game(self):
        games = [(2, []), (4, drawn(".XO. X.XO .XO. ....", 2) + [play(1, 1)]), (3, [play(1, 0), play(0, 0), play(0, 1)]),
                 (5, [PASS, PASS]), (19, long_game()), (19, long_game()[:721])]
        behind = [BOARD, AREA, LIVES, group(0, 0), save(8192), play(2, 1), PASS, BOARD, UNDO, UNDO, BOARD, save(8192)]
        for n, turns in games:
            text = saved(begin(n), *turns)
            asked = ask(begin(n), *turns, *behind)[1 + len(turns):]
            given = ask(begin(11), play(5, 5), load(text), *behind)[2:]
            self.assertEqual(given[0], [len(turns)])
            self.assertTrue(given[1:] == asked, (n, turns))


if __name__ == "__main__":
    unittest.main()
