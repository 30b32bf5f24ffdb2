"""Tables: groups of encoded columns with zones, buffers, and files."""
