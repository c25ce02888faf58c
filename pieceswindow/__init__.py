"""Pieceswindow: parts of long letters under numbers that come round, and what a hearer joins."""
