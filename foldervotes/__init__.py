"""Foldervotes: folders told at both ends, mended by votes."""
