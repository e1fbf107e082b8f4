"""Intervals of extended numbers; the calls are in betwixt.ends."""
