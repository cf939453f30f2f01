"""Outlines, laid out by indentation or held by braces: read, held and written."""
