"""Two sides of a stream, and a link between them that may lose what they send."""
