"""Piecetold: one long run, done in pieces by workers who may lie."""
