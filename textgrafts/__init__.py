"""Graft: version control with commuting changes."""
