"""A book that keeps what was put."""
