"""What the beginning of a document settles about its ends."""
