"""In shared words: what two people know, and can tell each other in the letters they share."""
