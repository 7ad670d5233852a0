"""Twinriddles: riddles whose answers are alike."""
