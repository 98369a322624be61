"""Places round the circle, of quotient rows and of rising rows."""
