"""A cache that finds out how much room to give to what; its interface is in the file cache."""
