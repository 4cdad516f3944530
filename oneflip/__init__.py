"""Stores that lose nothing when the plug is pulled between any two flips, in the fewest bits."""
