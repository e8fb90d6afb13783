"""The tests of baysout."""
