"""Worldsalone: worlds that each see one machine as if they were alone on it."""
