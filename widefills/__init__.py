"""Wide fills: what may be put in for unknown lots of words, so that a filter always lets it through."""
