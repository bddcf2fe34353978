"""Forcedtables: what the number of its elements forces of a group."""
