"""Work that always ends: an order that is looked through before it is taken, and cases that are never stuck."""
