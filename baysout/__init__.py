"""Baysout: whatever bay is turned out next, every fence ends as the same field at the same place."""
