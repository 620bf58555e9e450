"""A house with a helper that may become somebody else by what it does."""
