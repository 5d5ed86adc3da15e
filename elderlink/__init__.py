"""elderlink: bags dealt by rank, and which orders are alike for all stocks."""
