"""Kept whatever comes together: is a rule that copies keep by themselves still kept when all is put together?"""
