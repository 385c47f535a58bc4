"""Caseslive: all processes that fit a log, at once."""
