"""A rope over hills, on supports: which are right, and which cost the least."""
