"""Truemill: a build system whose workers, caches and messengers are not trusted."""
