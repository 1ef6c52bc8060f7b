"""Trends: measurements kept as summaries, in cells of four widths."""
