"""Moving pictures of few colours, read from a file's bytes and drawn one after another."""
