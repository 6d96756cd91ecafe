"""Adapters, which give loggers an extra of their own."""

from recordyard.kinds import own_copy


class LoggerAdapter:
    """Stands in front of a logger or another adapter."""

    def __init__(self, logger, extra=None, merge_extra=False):
        self.logger = logger
        self.name = logger.name
        self.extra = {} if extra is None else own_copy(extra)
        self.merge_extra = merge_extra

    def merged(self, extra):
        """The extra with which the logger is called."""
        told = dict(self.extra)
        if self.merge_extra and extra is not None:
            told.update(extra)
        return told

    def log(self, level, msg, args=(), extra=None):
        """As that of the logger."""
        self.logger.log(level, msg, args, self.merged(extra))

    def debug(self, msg, args=(), extra=None):
        """As that of the logger."""
        self.logger.debug(msg, args, self.merged(extra))

    def info(self, msg, args=(), extra=None):
        """As that of the logger."""
        self.logger.info(msg, args, self.merged(extra))

    def warning(self, msg, args=(), extra=None):
        """As that of the logger."""
        self.logger.warning(msg, args, self.merged(extra))

    def error(self, msg, args=(), extra=None):
        """As that of the logger."""
        self.logger.error(msg, args, self.merged(extra))

    def critical(self, msg, args=(), extra=None):
        """As that of the logger."""
        self.logger.critical(msg, args, self.merged(extra))

    def isEnabledFor(self, level):
        """As that of the logger."""
        return self.logger.isEnabledFor(level)

    def setLevel(self, level):
        """As that of the logger."""
        self.logger.setLevel(level)

    def getEffectiveLevel(self):
        """As that of the logger."""
        return self.logger.getEffectiveLevel()

    def hasHandlers(self):
        """As that of the logger."""
        return self.logger.hasHandlers()
