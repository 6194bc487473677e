"""Filters for document trees: small programs that select and change parts of a document."""
