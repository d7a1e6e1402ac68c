package steer_test

import (
	"fmt"
	"math/rand"
	"slices"
	"strings"
	"testing"

	"steer/api"
	"steer/steer"
)

const example = "a:{1,2};b:t(30,m(10:=a,1:w(3*1,4*2,5*1|{0})|g(7:f(8,9|@2)|{6})))"

// compiled gives the code of a text that must have one.
func compiled(t *testing.T, text string) []byte {
	t.Helper()
	code, errno := steer.Compile(text)
	if errno != api.OK || len(code) < 1 || len(code) > api.MaxCode {
		t.Fatalf("Compile(%q) = %d bytes, %d", text, len(code), errno)
	}
	return code
}

func TestCompileWrong(t *testing.T) { // P1, P8
	for _, k := range []struct {
		text  string
		errno api.Errno
	}{
		{"", api.ErrText}, {"a:{1", api.ErrText}, {strings.Repeat(" ", api.MaxText+1), api.ErrLong}, {strings.Repeat("a:{1}", 1000000), api.ErrLong},
		{"a:" + within(12, "@1"), api.ErrDeep}, {"a:{" + sixteen + ",16}", api.ErrMany}, {"a:=a", api.ErrName}, {"a:{64}", api.ErrNumber}, {"a:{1,1}", api.ErrTwice}, {"a:{64};b:{1}", api.ErrNumber},
		{rules + ";f:f(0,1,2,3,4,5,6,7|=e)", api.ErrFull}, {rules + ";f:m(0:=e|=e)", api.ErrFull}, {rules + ";f:m(0:=e|=e);g:=f", api.ErrFull}, {rules + ";f:f(0,1,2,3,4,5,6|=e);g:t(1,=f)", api.ErrFull},
		{rules + ";f:m(0:=e|=e);g:=z", api.ErrName}, {rules + ";f:m(0:=e|=e);g:@16", api.ErrNumber}, {rules + ";f:m(0:=e|=e", api.ErrText},
	} {
		code, errno := steer.Compile(k.text)
		if code != nil || errno != k.errno {
			t.Errorf("Compile(%.80q) = %v, %d, want %d", k.text, code, errno, k.errno)
		}
	}
}

func TestCompileLarge(t *testing.T) { // P8: up to MaxSize there is code, of up to MaxCode bytes, whatever rules are not needed
	full := rules + ";f:f(0,1,2,3,4,5,6|=e)"
	compiled(t, full)
	compiled(t, full+";g:=f")
	compiled(t, full+";g:m(0:=f|=f);h:=f")
	arms := []string{}
	for i := range 16 {
		arms = append(arms, fmt.Sprintf("%04b", i)+strings.Repeat("1", 28)+":=a")
	}
	wide := "a:w(" + strings.ReplaceAll(sixteen, ",", "*1000,") + "*1000|w(" + strings.ReplaceAll(sixteen, ",", "*1000,") + "*1000|" + within(8, "@0") + "))"
	text := wide + ";b:m(" + strings.Join(arms, ",") + "|" + within(9, "m("+strings.Repeat("1", 32)+":=a|=a)") + ")"
	size, _ := steer.Size(text)
	if size < 800 || size > api.MaxSize {
		t.Fatalf("the size is %d", size)
	}
	compiled(t, text)
	text = "a:{" + sixteen + "}"
	for c := byte('b'); c <= 'z'; c++ {
		text += ";" + string(c) + ":m(0:=" + string(c-1) + ",1:=" + string(c-1) + "|=" + string(c-1) + ")"
	}
	code, errno := steer.Compile(text)
	if code != nil || errno != api.ErrFull {
		t.Errorf("Compile of 3 to the 25th = %d bytes, %d", len(code), errno)
	}
	code = compiled(t, text[:len(text)-len("z:m(0:=y,1:=y|=y)")]+"z:m(0:=b|=a)")
	if !slices.Equal(code, compiled(t, "a:{"+sixteen+"};b:m(0:m(0:=a,1:=a|=a)|=a)")) {
		t.Errorf("rules that are not needed leave a trace")
	}
}

func TestCompileSame(t *testing.T) { // P8
	for _, k := range [][]string{
		{"a:{1,2};b:t(9,=a)", " a : {1 , 2} ;\nb:t( 9 ,=a ) ", "x:{1,2};y:t(9,=x)", "b:{1,2};a:t(9,=b)", "c:@3;a:{1,2};d:m(1:=c|=a);b:t(9,=a)"},
		{"z:@1", "a:@1", "\n\n a: @\n1 ", "a:@2;b:=a;c:=b;d:{1};z:@1"},
		{"a:@1;b:@2;c:m(0:=a|=b)", "b:@1;a:@2;c:m(0:=b|=a)", "a:@1;x:m(1:=a|=a);b:@2;y:t(1,=x);c:m(0:=a|=b)"},
		{example, strings.ReplaceAll(strings.ReplaceAll(example, "a:", "z:"), "=a", "= z"), "q:w(1*1|@1);" + example, strings.Replace(example, ";", ";q:=a;", 1)},
	} {
		code := compiled(t, k[0])
		for _, text := range k[1:] {
			if !slices.Equal(code, compiled(t, text)) {
				t.Errorf("%q and %q have different code", k[0], text)
			}
		}
	}
}

func TestCompileSameDrawn(t *testing.T) { // P8
	r := rand.New(rand.NewSource(11))
	tried := 0
	for range 3000 {
		tree := newTree(r, 1+r.Intn(5), 1+r.Intn(12))
		text := tree.text(r, letters, 0)
		if tree.size() > api.MaxSize || len(text) > api.MaxText {
			continue
		}
		code := compiled(t, text)
		names := []byte(letters)
		r.Shuffle(len(names), func(i int, j int) { names[i], names[j] = names[j], names[i] })
		more := tree
		for range r.Intn(4) {
			at := r.Intn(len(more.rules))
			left := r.Intn(6)
			more = more.with(at, tree0(more, at).node(r, 0, &left))
		}
		other := more.text(r, string(names), r.Intn(30))
		if len(other) > api.MaxText {
			continue
		}
		tried++
		if !slices.Equal(code, compiled(t, other)) {
			t.Fatalf("%q and %q have different code", text, other)
		}
	}
	if tried < 1500 {
		t.Errorf("only %d were tried", tried)
	}
}

// tree0 is a tree with its first n rules alone, for a rule that can name these.
func tree0(t tree, n int) tree { return tree{rules: t.rules[:n], base: t.base} }

func TestCompileFresh(t *testing.T) { // P2
	first := compiled(t, example)
	kept := slices.Clone(first)
	second := compiled(t, example)
	room := first[:cap(first)]
	for i := range room {
		room[i] = 0xFF
	}
	if !slices.Equal(second, kept) || !slices.Equal(compiled(t, example), kept) {
		t.Errorf("what was written into code that came out is in other code")
	}
}
