"""Sinktree: records changed by small programs that sink through a tree."""
