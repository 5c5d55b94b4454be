"""Standworth: best plans of crews over a week, and what each standing is worth."""
