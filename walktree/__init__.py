"""A tree one walks through, whole."""
