"""Numbers on a board: two are wiped out, one is written instead, till one is left."""
