"""Gameworth: what a game is worth."""
