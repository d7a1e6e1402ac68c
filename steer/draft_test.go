package steer_test

import (
	"fmt"
	"math/rand"
	"strings"

	"steer/api"
)

// fault: an error that a draft knows it has.
type fault struct {
	errno api.Errno
	at    int
}

// draft writes a text that has the form of a policy, and knows what is wrong in it and how large it is.
type draft struct {
	r      *rand.Rand
	text   strings.Builder
	errors int // one number of so many is wrong; 0: none
	faults []fault
	rules  map[byte]int // the sizes
	last   int          // the size of the last rule
	room   int
}

const sizeCap = 1 << 40

func newDraft(r *rand.Rand, errors int, room int) *draft {
	d := &draft{r: r, errors: errors, rules: map[byte]int{}, room: room}
	rules := 1 + r.Intn(6)
	for i := range rules {
		if i > 0 {
			d.sign(";")
		}
		d.rule(byte('a' + (i*7)%26))
	}
	d.blanks()
	return d
}

func (d *draft) blanks() {
	for d.r.Intn(8) == 0 {
		d.text.WriteByte(" \n"[d.r.Intn(2)])
	}
}

// sign writes a sign behind blanks, and gives its place.
func (d *draft) sign(s string) int {
	d.blanks()
	at := d.text.Len()
	d.text.WriteString(s)
	return at
}

func (d *draft) fault(errno api.Errno, at int) { d.faults = append(d.faults, fault{errno, at}) }

func (d *draft) errs() bool { return d.errors > 0 && d.r.Intn(d.errors) == 0 }

// told is the error that Check must tell.
func (d *draft) told() fault {
	best := fault{}
	for _, f := range d.faults {
		if best.errno == api.OK || f.at < best.at || f.at == best.at && f.errno < best.errno {
			best = f
		}
	}
	return best
}

func (d *draft) rule(name byte) {
	if d.errs() {
		name = 'a'
	}
	at := d.sign(string(name))
	_, there := d.rules[name]
	if there {
		d.fault(api.ErrName, at)
	}
	d.sign(":")
	size := d.expr(0)
	d.rules[name] = size
	d.last = size
	d.room -= 3
}

// number writes a number that is right from least to most.
func (d *draft) number(least int, most int) (int, int) {
	n := least + d.r.Intn(most-least+1)
	switch {
	case d.r.Intn(10) == 0:
		n = least
	case d.r.Intn(10) == 0:
		n = most
	}
	if d.errs() {
		n = []int{least - 1, most + 1, most * 2, 999999999}[d.r.Intn(4)]
		n = max(n, 0)
	}
	at := d.sign(fmt.Sprint(n))
	if n < least || n > most {
		d.fault(api.ErrNumber, at)
	}
	return n, at
}

func (d *draft) bits() (string, int) {
	n := 1 + d.r.Intn(4)
	if d.r.Intn(10) == 0 {
		n = 32
	}
	s := ""
	for range n {
		s += string("01"[d.r.Intn(2)])
	}
	return s, d.sign(s)
}

func (d *draft) expr(depth int) int {
	d.room -= 20
	kinds := "{@={@=wfmgtmgt"
	if depth > api.MaxDepth+2 || d.room < 0 {
		kinds = "{@="
	}
	kind := kinds[d.r.Intn(len(kinds))]
	at := d.sign(string(kind))
	if depth >= api.MaxDepth {
		d.fault(api.ErrDeep, at)
	}
	switch kind {
	case '{':
		size := 1 + d.items(kind, depth)
		d.sign("}")
		return size
	case '@':
		d.number(0, api.MaxAliases-1)
		return 1
	case '=':
		return d.name()
	}
	d.sign("(")
	size := 1
	if kind == 't' {
		d.number(1, api.MaxTTL)
		d.sign(",")
	} else {
		size += d.items(kind, depth)
		d.sign("|")
	}
	size += d.expr(depth + 1)
	d.sign(")")
	return min(size, sizeCap)
}

func (d *draft) name() int {
	letter := byte('a' + d.r.Intn(26))
	for name := range "abcdefghijklmnopqrstuvwxyz" {
		_, there := d.rules[byte('a'+name)]
		if there && !d.errs() {
			letter = byte('a' + name)
		}
	}
	at := d.sign(string(letter))
	size, there := d.rules[letter]
	if !there {
		d.fault(api.ErrName, at)
	}
	return size
}

// items writes items, and gives their number and the sizes of the expressions in them.
func (d *draft) items(kind byte, depth int) int {
	n := 1 + d.r.Intn(3)
	if d.errs() {
		n = api.MaxItems + d.r.Intn(3)
	}
	size := n
	seen := map[string]bool{}
	for i := range n {
		if i > 0 {
			d.sign(",")
		}
		key, at := d.key(kind)
		if i >= api.MaxItems {
			d.fault(api.ErrMany, at)
		}
		if seen[key] {
			d.fault(api.ErrTwice, at)
		}
		seen[key] = true
		switch kind {
		case 'w':
			d.sign("*")
			d.number(1, api.MaxWeight)
		case 'm', 'g':
			d.sign(":")
			size += d.expr(depth + 1)
		}
	}
	return min(size, sizeCap)
}

func (d *draft) key(kind byte) (string, int) {
	switch kind {
	case 'm':
		return d.bits()
	case 'g':
		n, at := d.number(0, api.MaxRegion)
		return fmt.Sprint(n), at
	}
	n, at := d.number(0, api.MaxServers-1)
	return fmt.Sprint(n), at
}
