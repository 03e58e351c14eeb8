"""Consensus with membership changes, simulated one step at a time."""
