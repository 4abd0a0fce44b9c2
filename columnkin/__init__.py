"""columnkin: columns of nested records, which of them belong together, and what is lost and found."""
