"""Groups laid over groups, and one question about closed rows."""
