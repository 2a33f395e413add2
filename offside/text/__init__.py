"""Values as texts, and a shell of commands."""
