"""Letters that answer one another, told as threads."""
