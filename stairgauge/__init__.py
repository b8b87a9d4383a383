"""Stairgauge: the least widths of doors and stairs that a house's rules ask."""
