"""Letters between two whose keys go on."""
