"""A bridge between nets (after 802.1D)."""
