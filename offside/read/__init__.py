"""How texts are read: the rules, readings, and the states between lines."""
