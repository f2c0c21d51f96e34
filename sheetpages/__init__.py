"""Parts of a large sheet on pages of paper."""
