"""A works of batches: its recipes, its works' text and its days."""
