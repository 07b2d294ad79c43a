"""Claims about whole numbers, made plain, counted, and played out by two hands."""
