"""Fingers tapped: who wins a game of tapping fingers, and in how many turns."""
