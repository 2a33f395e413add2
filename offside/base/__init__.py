"""What everything else is made of: words and books."""
