"""Reelsplice: which frame of a spliced tape is from which reel."""
