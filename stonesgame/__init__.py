"""Stones on a board: the game of Go."""
