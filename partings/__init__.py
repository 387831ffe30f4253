"""A number's parts: ways to part a number, turned, told of and moved into one another."""
