"""A picture editor: layers, a choice of pixels, deeds that can be undone and done again."""
