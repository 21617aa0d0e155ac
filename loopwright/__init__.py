"""Loopwright: plaits, the loops that they close to, and papers that tell which are the same."""
