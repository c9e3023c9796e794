"""Document trees: the base of a document converter."""
