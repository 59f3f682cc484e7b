"""A juggler's bench: what can be told of patterns of throws."""
