"""How spans lie: which ways there may be between a few spans of time."""
