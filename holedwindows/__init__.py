"""Places of a row told by a window with holes."""
