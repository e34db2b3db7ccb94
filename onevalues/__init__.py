"""Values: one row of bytes, one text, paths, patches, numbers, forms."""
