"""peershelf: package instances with shared peers, and installations that stop anywhere."""
