"""Keyedtime: taps of an unsteady hand, read by exact widths."""
