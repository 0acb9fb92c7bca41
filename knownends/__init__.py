"""Knownends: what a sketch of a stream tells, exactly."""
