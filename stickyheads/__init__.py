"""Stickyheads: outlines that scroll under their headings."""
