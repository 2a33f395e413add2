"""Which columns give a wanted reading: demands between lines."""
