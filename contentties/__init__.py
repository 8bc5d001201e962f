"""Contentties: ties that can be kept whatever is wished."""
