package policy

import "steer/api"

// fault: the error that is to be told, of all that have been found so far.
type fault struct {
	errno api.Errno
	at    int
}

// found takes an error, if its place comes first, or if it has the lowest number at one place.
func (f *fault) found(errno api.Errno, at int) {
	if f.errno == api.OK || at < f.at || (at == f.at && errno < f.errno) {
		f.errno = errno
		f.at = at
	}
}

// check looks for what may be wrong in a text that has the form of a policy.
func check(p Policy) fault {
	f := fault{}
	for i, r := range p.Rules {
		if named(p.Rules[:i], r.Name.Value) != None {
			f.found(api.ErrName, r.Name.At)
		}
	}
	for _, e := range p.Exprs {
		f.expression(e)
		f.items(e)
	}
	return f
}

func (f *fault) expression(e Expr) {
	if e.Depth >= api.MaxDepth {
		f.found(api.ErrDeep, e.At)
	}
	switch e.Kind {
	case TTL:
		f.number(e.Number, 1, api.MaxTTL)
	case Alias:
		f.number(e.Number, 0, api.MaxAliases-1)
	case Name:
		if e.Inner == None {
			f.found(api.ErrName, e.Number.At)
		}
	}
}

func (f *fault) number(n Number, least int, most int) {
	if n.Value < least || n.Value > most {
		f.found(api.ErrNumber, n.At)
	}
}

func (f *fault) items(e Expr) {
	for i, x := range e.Items {
		if i >= api.MaxItems {
			f.found(api.ErrMany, x.At)
		}
		if isIn(e.Items[:i], x) {
			f.found(api.ErrTwice, x.At)
		}
		f.item(e.Kind, x)
	}
}

func (f *fault) item(kind byte, x Item) {
	n := Number{Value: x.Number, At: x.At}
	switch kind {
	case Servers, Chain:
		f.number(n, 0, api.MaxServers-1)
	case Pool:
		f.number(n, 0, api.MaxServers-1)
		f.number(x.Weight, 1, api.MaxWeight)
	case Regions:
		f.number(n, 0, api.MaxRegion)
	}
}

func isIn(l []Item, x Item) bool {
	for _, y := range l {
		if y.Number == x.Number && y.Prefix.Value == x.Prefix.Value && y.Prefix.Len == x.Prefix.Len {
			return true
		}
	}
	return false
}
