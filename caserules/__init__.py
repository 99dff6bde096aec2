"""Rules over rows of steps: which are kept, and which row keeps all."""
