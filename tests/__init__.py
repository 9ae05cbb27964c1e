"""The tests of thincoins."""
