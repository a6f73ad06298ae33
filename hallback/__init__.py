"""Hallback: comings told back from whom the desks of a hall took."""
