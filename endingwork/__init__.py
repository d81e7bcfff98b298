"""Work that always ends: an order of work that is looked through before it is taken."""
