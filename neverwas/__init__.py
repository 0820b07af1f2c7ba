"""Neverwas: compaction of a log whose writes may be retracted."""
