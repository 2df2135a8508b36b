"""Rows of steps from one tree, merged by commuting."""
