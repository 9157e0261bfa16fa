"""Hoppers filled: sand and water in ships' hoppers, and the best minute to stop."""
