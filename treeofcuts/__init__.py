"""All pairs in one tree: how much goes between places, and the cuts that part them."""
