"""Say: a text turned back into its readings."""
