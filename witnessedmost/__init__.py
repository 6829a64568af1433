"""Linear questions, with a witness."""
