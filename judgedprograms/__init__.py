"""pathguard: small programs that can't go astray, read and judged before they are let in."""
