"""Goalsmith: goals, workers, and papers that a small reader reads."""
