"""A translation memory: segments with their targets, found again by what is nearest."""
