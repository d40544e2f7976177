"""Relative and absolute chronology of an excavation."""
