package steer_test

import (
	"math/rand"
	"slices"
	"strings"
	"testing"

	"steer/api"
	"steer/steer"
)

func TestScope(t *testing.T) { // P14
	r := rand.New(rand.NewSource(21))
	scopes := [33]int{}
	for range 3000 {
		tree := newTree(r, 1+r.Intn(4), 1+r.Intn(12))
		code, errno := steer.Compile(tree.text(r, letters, 0))
		if errno != api.OK {
			continue
		}
		w := tree.world(r)
		w.Bits = 32
		a, errno := steer.Run(code, w, len(code))
		if errno != api.OK || a.Scope < 0 || a.Scope > 32 {
			t.Fatalf("Run = %+v, %d", a, errno)
		}
		scopes[a.Scope]++
		behind := 32 - a.Scope
		first := w.Addr >> behind << behind
		for _, rest := range []int{0, 1<<behind - 1, w.Addr ^ 1<<behind>>1, r.Intn(1 << 32), r.Intn(1 << 32)} {
			v := w
			v.Addr = first | rest&(1<<behind-1)
			b, errno := steer.Run(code, v, len(code))
			if errno != api.OK || !sameAnswer(a, b) {
				t.Fatalf("for %#x %+v, for %#x %+v, %d", w.Addr, a, v.Addr, b, errno)
			}
		}
	}
	if scopes[0] == 0 || scopes[1] == 0 || scopes[4] == 0 || scopes[32] == 0 {
		t.Errorf("the scopes tried: %v", scopes)
	}
}

func TestShares(t *testing.T) { // P15
	r := rand.New(rand.NewSource(22))
	for range 100 {
		n := &node{kind: 'w', inner: &node{kind: '{', keys: []int{0}}}
		down := []int{}
		want := map[int]int{}
		sum := 0
		for _, server := range r.Perm(63)[:1+r.Intn(16)] {
			weight := 1 + r.Intn([]int{4, 300, 1000}[r.Intn(3)])
			n.keys = append(n.keys, server+1)
			n.weights = append(n.weights, weight)
			if r.Intn(4) == 0 {
				down = append(down, server+1)
				continue
			}
			want[server+1] = weight
			sum += weight
		}
		text := tree{rules: []*node{n}}.text(r, letters, 0)
		code := compiled(t, text)
		got := map[int]int{}
		for draw := range sum {
			a, errno := steer.Run(code, api.World{Draw: draw, Down: down}, len(code))
			if errno != api.OK || len(a.Servers) != 1 {
				t.Fatalf("Run of %q = %+v, %d", text, a, errno)
			}
			got[a.Servers[0]]++
		}
		for server := range 64 {
			if got[server] != want[server] {
				t.Fatalf("of %q with %v down, %d is chosen %d times, want %d", text, down, server, got[server], want[server])
			}
		}
	}
}

func TestNothingChanges(t *testing.T) { // P16
	r := rand.New(rand.NewSource(23))
	for range 1500 {
		tree := newTree(r, 1+r.Intn(5), 1+r.Intn(10))
		text := tree.text(r, letters, 0)
		named := text + ";z:=" + letters[len(tree.rules)-1:len(tree.rules)]
		blank := tree.text(r, letters, 20)
		if tree.size() > api.MaxSize || max(len(named), len(blank)) > api.MaxText {
			continue
		}
		w := tree.world(r)
		code := compiled(t, text)
		want, errno := steer.Run(code, w, len(code))
		for _, other := range []string{named, blank, " \n" + named + "\n"} {
			code := compiled(t, other)
			a, e := steer.Run(code, w, len(code))
			if errno != api.OK || e != api.OK || !sameAnswer(a, want) {
				t.Fatalf("of %q %+v, %d, of %q %+v, %d", text, want, errno, other, a, e)
			}
		}
	}
}

func TestBlanksEverywhere(t *testing.T) { // P16
	signs := strings.FieldsFunc("a : { 1 , 2 } ; b : t ( 30 , m ( 10 : = a , 1 : w ( 3 * 1 , 4 * 2 , 5 * 1 | { 0 } ) | g ( 7 : f ( 8 , 9 | @ 2 ) | { 6 } ) ) )", func(c rune) bool { return c == ' ' })
	code := compiled(t, example)
	for _, gap := range []string{"", " ", "\n", " \n  \n"} {
		if !slices.Equal(code, compiled(t, gap+strings.Join(signs, gap)+gap)) {
			t.Errorf("with %q between all signs the code is another", gap)
		}
	}
}
