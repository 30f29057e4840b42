"""A keeper of copies that forgets what no rule, hold or later copy needs."""
