"""Treegarb: style sheets, decided for all documents at once."""
