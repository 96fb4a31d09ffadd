"""Topletter: a pile of letters, of which the top one is answered."""
