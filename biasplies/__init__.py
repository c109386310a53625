"""Plies on the bias: fabric cut aslant, spliced round a drum, ply on ply."""
