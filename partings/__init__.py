"""A number's parts: ways to part a number, turned, moved into one another, numbered and counted."""
