"""What stretches of lines do in the midst of texts."""
