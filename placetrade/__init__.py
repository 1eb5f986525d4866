"""Placetrade: letters that may change places where they stand side by side."""
