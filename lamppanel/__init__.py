"""A panel in front of relays, watched, with its journal."""
