"""Flameward: a flame kept by candles that get damp."""
