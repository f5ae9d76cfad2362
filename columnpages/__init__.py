"""Pages out of a long column, with the insertions that belong to them."""
