"""A dictionary: words in the order of their letters, with senses that point to others."""
