"""Where to go by the longest beginning that is known."""
