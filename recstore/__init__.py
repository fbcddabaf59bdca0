"""Records of declared kinds in one array of bytes, with versions, leases and images."""
