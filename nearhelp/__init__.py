"""How long a call can wait, and whom a stop can harm."""
