"""Functions whose methods are chosen by the kinds of all their arguments."""
