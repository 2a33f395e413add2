"""Projects: lines with marks, what has to hold for them, and changes that are taken back."""
