package policy

func (p *parser) rules() {
	more := true
	for more {
		p.rule()
		more = p.take(';')
	}
	if p.at < len(p.text) {
		p.bad = true
	}
}

func (p *parser) rule() {
	name := p.letter()
	p.want(':')
	e := p.expression(0)
	// Not before its end, because a rule cannot name itself.
	p.read.Rules = append(p.read.Rules, Rule{Name: name, Expr: e})
}

// expression reads an expression that stands at this depth, and gives its index.
// It calls itself only behind a byte that it has stepped over, so it ends.
func (p *parser) expression(depth int) int {
	p.skipBlanks()
	e := Expr{Kind: p.here(), At: p.at, Depth: depth, Inner: None}
	if !isKind(e.Kind) {
		p.bad = true
		return None
	}
	p.at++
	switch e.Kind {
	case Servers:
		e.Items = p.items(e.Kind, depth)
		p.want('}')
	case TTL:
		p.want('(')
		e.Number = p.number()
		p.want(',')
		e.Inner = p.expression(depth + 1)
		p.want(')')
	case Alias:
		e.Number = p.number()
	case Name:
		e.Number = p.letter()
		e.Inner = named(p.read.Rules, e.Number.Value)
	default:
		p.want('(')
		e.Items = p.items(e.Kind, depth)
		p.want('|')
		e.Inner = p.expression(depth + 1)
		p.want(')')
	}
	p.read.Exprs = append(p.read.Exprs, e)
	return len(p.read.Exprs) - 1
}

func isKind(c byte) bool {
	switch c {
	case Servers, Pool, Chain, Prefixes, Regions, TTL, Alias, Name:
		return true
	}
	return false
}

// items reads the items of an expression that stands at this depth.
func (p *parser) items(kind byte, depth int) []Item {
	l := []Item{}
	more := true
	for more {
		x := p.item(kind, depth)
		l = append(l, x)
		more = p.take(',')
	}
	return l
}

func (p *parser) item(kind byte, depth int) Item {
	p.skipBlanks()
	x := Item{At: p.at, Arm: None}
	switch kind {
	case Prefixes:
		x.Prefix = p.bits()
		p.want(':')
		x.Arm = p.expression(depth + 1)
	case Regions:
		x.Number = p.number().Value
		p.want(':')
		x.Arm = p.expression(depth + 1)
	case Pool:
		x.Number = p.number().Value
		p.want('*')
		x.Weight = p.number()
	default:
		x.Number = p.number().Value
	}
	return x
}

// named gives the index of the expression of the rule with this name, or None.
func named(l []Rule, letter int) int {
	for _, r := range l {
		if r.Name.Value == letter {
			return r.Expr
		}
	}
	return None
}
