"""Propagation of qualitative relations between points, intervals, sets or positions."""
