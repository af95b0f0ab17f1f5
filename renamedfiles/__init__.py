"""Files renamed at once, whole."""
