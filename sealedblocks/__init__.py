"""Blocks sealed by their numbers; the interface is the function answers in blocks.py."""
