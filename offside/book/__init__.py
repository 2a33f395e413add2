"""How books compare: which read all that others read."""
