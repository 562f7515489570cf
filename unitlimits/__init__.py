"""Unitlimits: lengths of texts in several units."""
