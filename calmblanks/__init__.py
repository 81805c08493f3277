"""Calmblanks: tables with blanks that hang on other cells, and what is seen of the whole."""
