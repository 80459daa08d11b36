"""Loops found in a recording of deeds."""
