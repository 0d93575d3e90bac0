"""Loops over arrays, reordered, run in parallel and folded."""
