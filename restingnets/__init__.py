"""Electric networks at rest, reckoned exactly."""
