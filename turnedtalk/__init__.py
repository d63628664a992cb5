"""Turnedtalk: what is said through letters that are lost and turned."""
