"""Pantographs in a row: what rows of copying devices do to a drawing."""
