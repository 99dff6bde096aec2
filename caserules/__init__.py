"""Rules over rows of steps: which are kept, which clash, which follow, and which row is nearest to keeping all."""
