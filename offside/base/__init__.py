"""What everything else is made of: words, books and texts."""
