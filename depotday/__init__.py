"""Depotday: vehicles on a clock that comes round, one cable, and turns, kept for ever."""
