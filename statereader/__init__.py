"""A reader of marks, words, numbers and texts by its states."""
