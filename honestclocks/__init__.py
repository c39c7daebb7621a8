"""Clocks that say how wrong they may be."""
