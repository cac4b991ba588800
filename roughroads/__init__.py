"""Roughroads: an office that builds a least net of roads while lengths are only known between bounds."""
