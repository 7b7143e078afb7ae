"""Tracefold: hot loops written down as straight rows."""
