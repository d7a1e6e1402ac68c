// Package machine: turns policies into code, and runs it.
//
// The code of an expression is its sign, then what is told of it here:
//
//	{   count, servers
//	w   count, members (server, weight), the code of the expression behind the bar
//	f   count, servers, the code of the expression behind the bar
//	m   count, arms (value, length, way), the code of the expression behind the bar, that of all arms
//	g   count, arms (region, way), the code of the expression behind the bar, that of all arms
//	t   seconds, the code of the expression
//	@   alias
//
// In the place of another rule's name stands the code of that rule's expression; so neither names nor rules that are not needed leave a trace.
// A way is the number of bytes between the last of these arms and the code of the arm that it leads to.
// All ways lead forward: a run takes each step at a byte further on than the last one, so it ends, and has no more steps than the code has bytes.
package machine

// How many bytes a number has, the lowest first; all others have one.
const (
	weightBytes  = 2
	secondsBytes = 3
	valueBytes   = 4
	wayBytes     = 2
)
