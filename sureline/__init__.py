"""A link between two computers: bytes put at one end are taken at the other, in order, each once."""
