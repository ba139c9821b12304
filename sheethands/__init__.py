"""Many hands on one sheet."""
