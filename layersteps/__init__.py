"""Commands that move one layer of a drawing."""
