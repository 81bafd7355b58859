"""Tripladder: which breaker lets go first."""
