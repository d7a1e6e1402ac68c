// Package policy: reads the text of a policy, tells what is wrong with it, and how large it is.
package policy

import "steer/api"

// The kinds of expressions; each is the sign that such an expression begins with.
const (
	Servers  = '{'
	Pool     = 'w'
	Chain    = 'f'
	Prefixes = 'm'
	Regions  = 'g'
	TTL      = 't'
	Alias    = '@'
	Name     = '='
)

// None stands where an expression has no other one.
const None = -1

// Number: a number or a letter of the text, and its place.
type Number struct {
	Value, At int
}

// Item: a server, member or arm.
type Item struct {
	At     int        // the place of its first byte
	Number int        // the server or region
	Prefix api.Prefix // what the bits stand for, in a map of prefixes
	Weight Number     // of a member
	Arm    int        // the index of an arm's expression, or None
}

// Expr: an expression.
type Expr struct {
	Kind   byte
	At     int    // the place of its first byte
	Depth  int    // how many expressions stand around it
	Number Number // the seconds, the alias, or the letter behind =
	Items  []Item
	Inner  int // the index of the expression behind the bar, behind the seconds, or of the rule that is named; or None
}

// Rule: the letter that names it, and the index of its expression.
type Rule struct {
	Name Number
	Expr int
}

// Policy: its expressions and rules. All that an expression needs stands before it in Exprs; so what the policy means is the last one.
type Policy struct {
	Exprs []Expr
	Rules []Rule
}

// Read reads a policy; or it tells the error and its place.
func Read(text string) (Policy, api.Errno, int) {
	if len(text) > api.MaxText {
		return Policy{}, api.ErrLong, 0
	}
	p := parser{text: text}
	p.rules()
	if p.bad {
		return Policy{}, api.ErrText, p.at
	}
	f := check(p.read)
	if f.errno != api.OK {
		return Policy{}, f.errno, f.at
	}
	return p.read, api.OK, 0
}
