"""Netrules: nets that rewrite themselves pair by pair."""
