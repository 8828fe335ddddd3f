"""Rows of instructions of which some take nobody knows how long."""
