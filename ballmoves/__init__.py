"""Ballmoves: fractions that are near by a prime, their balls as one tree, and moves of it."""
