"""Resttricks: figures trimmed and added, and what they tell of rests."""
