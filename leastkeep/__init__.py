"""Leastkeep: a compiler that keeps only what can still be wanted."""
