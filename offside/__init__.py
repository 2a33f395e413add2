"""Offside: blocks told by columns, under any book of rules."""
