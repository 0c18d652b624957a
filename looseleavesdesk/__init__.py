"""What was seen of loose leaves, and how they may have lain."""
