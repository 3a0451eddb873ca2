"""Things given by wishes: as many things as people, and no money changes hands."""
