"""Rungladders: ladders of resistors with any number of sections."""
