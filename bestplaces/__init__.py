"""Everybody's best place: which child gets which school."""
