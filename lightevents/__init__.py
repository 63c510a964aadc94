"""Light and events: who can have heard of whom, on a line."""
