"""The least term that does it."""
