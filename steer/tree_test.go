package steer_test

import (
	"fmt"
	"math/rand"
	"slices"
	"strconv"
	"strings"

	"steer/api"
)

// node: an expression, as a tree that was never a text. What it means is found here as the document tells it, and shares nothing with the way code is made and run.
type node struct {
	kind    byte
	number  int      // the seconds or the alias
	rule    int      // the index of the rule that is named
	keys    []int    // the servers or regions
	bits    []string // in a map of prefixes
	weights []int
	arms    []*node
	inner   *node
}

// tree: rules, and an address that much of it is about.
type tree struct {
	rules []*node
	base  string
}

func binary(addr int) string { return fmt.Sprintf("%032b", addr) }

func newTree(r *rand.Rand, rules int, room int) tree {
	t := tree{base: binary(r.Intn(1 << 32))}
	for range rules {
		left := room
		t.rules = append(t.rules, t.node(r, 0, &left))
	}
	return t
}

func (t tree) node(r *rand.Rand, depth int, room *int) *node {
	*room--
	kinds := "{@=wfwfmgmgmgtt"
	if depth == api.MaxDepth-1 || *room < 0 {
		kinds = "{{@="
	}
	n := &node{kind: kinds[r.Intn(len(kinds))]}
	if n.kind == '=' && len(t.rules) == 0 {
		n.kind = '{'
	}
	switch n.kind {
	case '@':
		n.number = r.Intn([]int{3, api.MaxAliases}[r.Intn(2)])
		return n
	case '=':
		n.rule = len(t.rules) - 1 - r.Intn(min(3, len(t.rules)))
		return n
	case 't':
		n.number = 1 + r.Intn([]int{5, 300, api.MaxTTL}[r.Intn(3)])
	default:
		t.items(r, n, depth, room)
	}
	if n.kind != '{' {
		n.inner = t.node(r, depth+1, room)
	}
	return n
}

func (t tree) items(r *rand.Rand, n *node, depth int, room *int) {
	count := 1 + r.Intn(4)
	if r.Intn(20) == 0 {
		count = api.MaxItems
	}
	for range count {
		switch n.kind {
		case 'm':
			bits := t.some(r, 1)
			if slices.Contains(n.bits, bits) {
				continue
			}
			n.bits = append(n.bits, bits)
			n.arms = append(n.arms, t.node(r, depth+1, room))
		case 'g':
			region := r.Intn([]int{4, api.MaxRegion + 1}[r.Intn(2)])
			if slices.Contains(n.keys, region) {
				continue
			}
			n.keys = append(n.keys, region)
			n.arms = append(n.arms, t.node(r, depth+1, room))
		default:
			server := r.Intn([]int{6, api.MaxServers}[r.Intn(2)])
			if slices.Contains(n.keys, server) {
				continue
			}
			n.keys = append(n.keys, server)
			n.weights = append(n.weights, 1+r.Intn([]int{3, api.MaxWeight}[r.Intn(2)]))
		}
	}
}

// some gives first bits of the tree's address, often with another one last, or others.
func (t tree) some(r *rand.Rand, least int) string {
	n := least + r.Intn(33-least)
	if r.Intn(2) == 0 {
		n = least + r.Intn(5)
	}
	switch {
	case r.Intn(4) == 0:
		return binary(r.Intn(1 << 32))[:n]
	case n > 0 && r.Intn(2) == 0:
		return t.base[:n-1] + string("10"[t.base[n-1]-'0'])
	}
	return t.base[:n]
}

func (t tree) world(r *rand.Rand) api.World {
	addr, _ := strconv.ParseInt((t.some(r, 0) + t.base)[:32], 2, 64)
	w := api.World{Addr: int(addr), Bits: 32, Draw: r.Intn([]int{10, 5000, 1 << 32}[r.Intn(3)])}
	if r.Intn(3) == 0 {
		w.Bits = r.Intn(33)
	}
	for range r.Intn(8) {
		w.Down = append(w.Down, r.Intn([]int{6, 2 * api.MaxServers}[r.Intn(2)])-r.Intn(2))
	}
	for range r.Intn(5) {
		w.Aliases = append(w.Aliases, []int{5, 5, -3, 1 << 40}[:r.Intn(5)])
	}
	seen := []string{}
	for range r.Intn(6) {
		bits := t.some(r, 0)
		if slices.Contains(seen, bits) {
			continue
		}
		seen = append(seen, bits)
		w.Places = append(w.Places, api.Place{Prefix: toPrefix(bits), Region: r.Intn([]int{4, api.MaxRegion + 1}[r.Intn(2)])})
	}
	return w
}

func toPrefix(bits string) api.Prefix {
	value, _ := strconv.ParseInt(bits+strings.Repeat("0", 32-len(bits)), 2, 64)
	return api.Prefix{Value: int(value), Len: len(bits)}
}

// meaning is what the last rule means.
func (t tree) meaning(w api.World) api.Answer { return t.mean(t.rules[len(t.rules)-1], w) }

func (t tree) mean(n *node, w api.World) api.Answer {
	up := func(server int) bool { return !slices.Contains(w.Down, server) }
	switch n.kind {
	case '{':
		return api.Answer{Servers: n.keys, TTL: 86400}
	case '@':
		if n.number >= len(w.Aliases) {
			return api.Answer{TTL: 86400}
		}
		return api.Answer{Servers: w.Aliases[n.number], TTL: 86400}
	case '=':
		return t.mean(t.rules[n.rule], w)
	case 'w':
		tickets := []int{}
		for i, server := range n.keys {
			if up(server) {
				tickets = append(tickets, slices.Repeat([]int{server}, n.weights[i])...)
			}
		}
		if len(tickets) > 0 {
			return api.Answer{Servers: []int{tickets[w.Draw%len(tickets)]}, TTL: 86400}
		}
	case 'f':
		i := slices.IndexFunc(n.keys, up)
		if i >= 0 {
			return api.Answer{Servers: n.keys[i : i+1], TTL: 86400}
		}
	case 't':
		a := t.mean(n.inner, w)
		a.TTL = min(a.TTL, n.number)
		return a
	case 'm', 'g':
		return t.meanMap(n, w)
	}
	return t.mean(n.inner, w)
}

func (t tree) meanMap(n *node, w api.World) api.Answer {
	known, _ := strconv.ParseInt(binary(w.Addr)[:w.Bits]+strings.Repeat("0", 32-w.Bits), 2, 64)
	l := []api.Prefix{}
	for _, bits := range n.bits {
		l = append(l, toPrefix(bits))
	}
	if n.kind == 'g' {
		for _, p := range w.Places {
			l = append(l, p.Prefix)
		}
	}
	i := longestByDigits(l, int(known))
	depth := depthByTrial(l, int(known))
	if n.kind == 'g' && i >= 0 {
		i = slices.Index(n.keys, w.Places[i].Region)
	}
	to := n.inner
	if i >= 0 {
		to = n.arms[i]
	}
	a := t.mean(to, w)
	a.Scope = max(a.Scope, depth)
	return a
}

// size is the size of the last rule, bounded.
func (t tree) size() int {
	sizes := []int{}
	for _, n := range t.rules {
		sizes = append(sizes, n.size(sizes))
	}
	return sizes[len(sizes)-1]
}

func (n *node) size(rules []int) int {
	if n.kind == '=' {
		return rules[n.rule]
	}
	size := 1 + max(len(n.keys), len(n.bits))
	for _, x := range n.arms {
		size += x.size(rules)
	}
	if n.inner != nil {
		size += n.inner.size(rules)
	}
	return min(size, sizeCap)
}

const letters = "abcdefghijklmnopqrstuvwxyz"

// text writes the tree with these names of its rules, with blanks in so many of a hundred gaps.
func (t tree) text(r *rand.Rand, names string, blanks int) string {
	signs := []string{}
	for i, n := range t.rules {
		if i > 0 {
			signs = append(signs, ";")
		}
		signs = append(signs, names[i:i+1], ":")
		signs = n.write(signs, names)
	}
	signs = append(signs, "")
	text := ""
	for _, s := range signs {
		for r.Intn(100) < blanks {
			text += " \n"[r.Intn(2):][:1]
		}
		text += s
	}
	return text
}

func (n *node) write(signs []string, names string) []string {
	switch n.kind {
	case '@':
		return append(signs, "@", strconv.Itoa(n.number))
	case '=':
		return append(signs, "=", names[n.rule:n.rule+1])
	case 't':
		signs = append(signs, "t", "(", strconv.Itoa(n.number), ",")
		return append(n.inner.write(signs, names), ")")
	case '{':
		return append(n.writeItems(append(signs, "{"), names), "}")
	}
	signs = n.writeItems(append(signs, string(n.kind), "("), names)
	return append(n.inner.write(append(signs, "|"), names), ")")
}

func (n *node) writeItems(signs []string, names string) []string {
	for i := range max(len(n.keys), len(n.bits)) {
		if i > 0 {
			signs = append(signs, ",")
		}
		if n.kind == 'm' {
			signs = append(signs, n.bits[i])
		} else {
			signs = append(signs, strconv.Itoa(n.keys[i]))
		}
		switch n.kind {
		case 'w':
			signs = append(signs, "*", strconv.Itoa(n.weights[i]))
		case 'm', 'g':
			signs = n.arms[i].write(append(signs, ":"), names)
		}
	}
	return signs
}

// with gives the tree with a rule more at this index, and the names moved on behind it.
func (t tree) with(at int, more *node) tree {
	rules := []*node{}
	for _, n := range t.rules {
		rules = append(rules, n.moved(at))
	}
	return tree{rules: slices.Insert(rules, at, more), base: t.base}
}

func (n *node) moved(at int) *node {
	if n == nil {
		return nil
	}
	m := *n
	if m.kind == '=' && m.rule >= at {
		m.rule++
	}
	m.inner = n.inner.moved(at)
	m.arms = nil
	for _, x := range n.arms {
		m.arms = append(m.arms, x.moved(at))
	}
	return &m
}
