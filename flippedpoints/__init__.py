"""Flipped points: whether a train whose points turn under it arrives."""
