"""Two sessions over one store: clashes and merges."""
