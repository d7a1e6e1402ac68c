package policy

import "steer/api"

const maxDigits = 9

// parser goes through a text. Once a byte cannot stand where it does, it stays at that place and reads nothing more.
type parser struct {
	text string
	at   int
	bad  bool
	read Policy
}

// here gives the byte at this place, or 0, which stands in no policy, if there is nothing to read.
func (p *parser) here() byte {
	if p.bad || p.at >= len(p.text) {
		return 0
	}
	return p.text[p.at]
}

func (p *parser) skipBlanks() {
	c := p.here()
	for c == ' ' || c == '\n' {
		p.at++
		c = p.here()
	}
}

// take steps over a sign, if it is the next one.
func (p *parser) take(sign byte) bool {
	p.skipBlanks()
	if p.here() != sign {
		return false
	}
	p.at++
	return true
}

// want steps over a sign that must be the next one.
func (p *parser) want(sign byte) {
	if !p.take(sign) {
		p.bad = true
	}
}

func (p *parser) letter() Number {
	p.skipBlanks()
	c := p.here()
	n := Number{Value: int(c), At: p.at}
	if c < 'a' || c > 'z' {
		p.bad = true
		return n
	}
	p.at++
	return n
}

func (p *parser) number() Number {
	p.skipBlanks()
	n := Number{At: p.at}
	c := p.here()
	digits := maxDigits
	if c == '0' {
		digits = 1
	}
	for p.at-n.At < digits && c >= '0' && c <= '9' {
		n.Value = n.Value*10 + int(c-'0')
		p.at++
		c = p.here()
	}
	if p.at == n.At {
		p.bad = true
	}
	return n
}

// bits reads bits, as the prefix that they are.
func (p *parser) bits() api.Prefix {
	p.skipBlanks()
	x := api.Prefix{}
	c := p.here()
	for x.Len < api.MaxBits && (c == '0' || c == '1') {
		x.Value = x.Value*2 + int(c-'0')
		x.Len++
		p.at++
		c = p.here()
	}
	if x.Len == 0 {
		p.bad = true
	}
	for i := x.Len; i < api.MaxBits; i++ {
		x.Value = x.Value * 2
	}
	return x
}
