"""Hushcards: cards laid face down that reckon."""
