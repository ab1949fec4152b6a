"""A radio in complex halves."""
