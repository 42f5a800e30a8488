"""Growlists: lists of named values that grow."""
