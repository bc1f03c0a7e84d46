"""The tests of metnumbers."""
