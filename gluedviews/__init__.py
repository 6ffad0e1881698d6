"""Views of questions that overlap: are they a tree, and what can be said of the whole."""
