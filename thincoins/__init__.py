"""Thincoins: what thinly filled stores hold, for all sizes at once."""
