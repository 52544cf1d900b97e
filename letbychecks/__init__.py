"""Letbychecks: which words a mender trusts that looks at checks one by one."""
