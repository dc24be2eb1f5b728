"""Deeds on drawn nets, told for all nets at once."""
