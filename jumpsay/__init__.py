"""Jumpsay: and, or, not as jumps."""
