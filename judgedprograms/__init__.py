"""pathguard: small programs that can't go astray, read, judged before they are let in, and run."""
