"""Orders of webs, and what they let things pay."""
