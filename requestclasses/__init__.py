"""Who, what and where, and classes of requests."""
