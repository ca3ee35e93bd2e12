"""Readings of an instrument, as they come: how many, their mean and their spread, the least and the greatest."""
