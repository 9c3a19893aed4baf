"""Isotonic regression: the nondecreasing sequence closest to weighted measurements."""
