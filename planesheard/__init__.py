"""Aircraft told by their radio replies (Mode S, extended squitters)."""
