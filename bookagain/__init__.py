"""Again from what happened: an errand gone through again by its book."""
