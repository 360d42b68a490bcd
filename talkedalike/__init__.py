"""Who says what in turn, until all say the same."""
