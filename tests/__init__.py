"""The tests of stickyheads."""
