"""Motiffield: patterns without end by motifs and shifts, in one least form."""
