"""Sets of character codes."""
