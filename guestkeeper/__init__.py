"""A keeper of guests, each a whole small machine that runs as if alone."""
