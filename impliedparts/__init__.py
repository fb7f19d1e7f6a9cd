"""Parts of data sets over a small category, and what they imply."""
