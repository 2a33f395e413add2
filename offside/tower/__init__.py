"""Texts kept in parts, which are read anew by few of them."""
