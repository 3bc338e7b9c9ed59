"""Blankform: terms with blanks, filled so that two of them are alike."""
