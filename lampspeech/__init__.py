"""Lamps: texts sent by a table of signs, long and short."""
