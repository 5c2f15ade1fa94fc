"""Liftwell: one lift in one shaft, and nobody forgotten."""
