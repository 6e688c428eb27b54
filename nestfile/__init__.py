"""Binary property lists, read as webs of shared objects."""
