"""Views: parts of wood, and their drawings from the front, the right and above."""
