package steer_test

import (
	"fmt"
	"math/rand"
	"strings"
	"testing"

	"steer/api"
	"steer/steer"
)

// wait: what may still come in a text, the next thing last. It is fed one byte at a time; it shares nothing with the way Check reads.
//
//	a   a letter             E   an expression       N   a number         B   bits
//	R   more rules or none   S M P G   more servers, members, arms of bits, arms of regions, or none
//	D1 to D9, b1 to b32      so many digits or fewer, or none
//
// Any other is the sign itself.
type wait []string

func (w wait) then(s ...string) wait {
	next := append(wait{}, w[:len(w)-1]...)
	for i := len(s) - 1; i >= 0; i-- {
		next = append(next, s[i])
	}
	return next
}

func (w wait) optional() bool {
	top := w[len(w)-1]
	return strings.Contains("RSMPG", top) || len(top) > 1
}

// digit reads within a number or bits, where no blank may stand.
func (w wait) digit(c byte) (wait, bool) {
	top := w[len(w)-1]
	switch {
	case len(top) > 1:
		var left int
		fmt.Sscan(top[1:], &left)
		if c == '0' || c == '1' || top[0] == 'D' && c >= '2' && c <= '9' {
			if left == 1 {
				return w.then(), true
			}
			return w.then(fmt.Sprint(top[:1], left-1)), true
		}
	case top == "N" && c == '0':
		return w.then(), true
	case top == "N" && c >= '1' && c <= '9':
		return w.then("D8"), true
	case top == "B" && (c == '0' || c == '1'):
		return w.then("b31"), true
	}
	return w, false
}

func (w wait) expression(c byte) (wait, bool) {
	switch c {
	case '{':
		return w.then("N", "S", "}"), true
	case 'w':
		return w.then("(", "N", "*", "N", "M", "|", "E", ")"), true
	case 'f':
		return w.then("(", "N", "S", "|", "E", ")"), true
	case 'm':
		return w.then("(", "B", ":", "E", "P", "|", "E", ")"), true
	case 'g':
		return w.then("(", "N", ":", "E", "G", "|", "E", ")"), true
	case 't':
		return w.then("(", "N", ",", "E", ")"), true
	case '@':
		return w.then("N"), true
	case '=':
		return w.then("a"), true
	}
	return w, false
}

func (w wait) sign(c byte) (wait, bool) {
	top := w[len(w)-1]
	switch {
	case top == "a" && c >= 'a' && c <= 'z':
		return w.then(), true
	case top == "E":
		return w.expression(c)
	case top == "R" && c == ';':
		return w.then("a", ":", "E", "R"), true
	case top == "S" && c == ',':
		return w.then("N", "S"), true
	case top == "M" && c == ',':
		return w.then("N", "*", "N", "M"), true
	case top == "P" && c == ',':
		return w.then("B", ":", "E", "P"), true
	case top == "G" && c == ',':
		return w.then("N", ":", "E", "G"), true
	case !strings.Contains("aENBRSMPG", top) && top == string(c):
		return w.then(), true
	}
	return w, false
}

func (w wait) feed(c byte) (wait, bool) {
	for len(w) > 0 {
		next, ok := w.digit(c)
		if ok {
			return next, true
		}
		next, ok = w.sign(c)
		if ok {
			return next, true
		}
		if len(w[len(w)-1]) == 1 && (c == ' ' || c == '\n') {
			return w, true
		}
		if !w.optional() {
			return w, false
		}
		if len(w) == 1 && (c == ' ' || c == '\n') {
			return w, true
		}
		w = w.then()
	}
	return w, false
}

// brokenAt gives the place where a text loses the form, or -1.
func brokenAt(text string) int {
	w := wait{"R", "E", ":", "a"}
	ok := true
	for i := range len(text) {
		w, ok = w.feed(text[i])
		if !ok {
			return i
		}
	}
	for len(w) > 0 && w.optional() {
		w = w.then()
	}
	if len(w) > 0 {
		return len(text)
	}
	return -1
}

func sameForm(t *testing.T, text string) {
	t.Helper()
	want := brokenAt(text)
	errno, at := steer.Check(text)
	if (errno == api.ErrText) != (want >= 0) || want >= 0 && at != want {
		t.Fatalf("Check(%q) = %d, %d; the form breaks at %d", text, errno, at, want)
	}
	if errno == api.ErrLong {
		t.Fatalf("Check(%.80q) = ErrLong, of %d bytes", text, len(text))
	}
}

func TestForm(t *testing.T) { // P4
	for _, k := range []struct {
		text string
		at   int
	}{
		{"", 0}, {" \n ", 3}, {"a", 1}, {"a:", 2}, {"a :", 3}, {";", 0}, {":", 0}, {"A:@1", 0}, {"1:@1", 0}, {"ab:@1", 1}, {"a@1", 1}, {"a::@1", 2},
		{"a:{1,2", 6}, {"a:{1,2 ", 7}, {"a:{", 3}, {"a:{}", 3}, {"a:{,1}", 3}, {"a:{1,}", 5}, {"a:{1,,2}", 5}, {"a:{1 2}", 5}, {"a:{1|2}", 4}, {"a:{1)", 4}, {"a:{1;", 4}, {"a:{a}", 3},
		{"a:{01}", 4}, {"a:{00}", 4}, {"a:{-1}", 3}, {"a:{+1}", 3}, {"a:{1.0}", 4}, {"a:{1234567890}", 12}, {"a:{123456789 0}", 13}, {"a:{1\n1}", 5}, {"a:{0 0}", 5},
		{"a:w(1|@0)", 5}, {"a:w(1*|@0)", 6}, {"a:w(1*1,|@0)", 8}, {"a:w(1*1)", 7}, {"a:w(|@0)", 4}, {"a:w{1*1|@0}", 3}, {"a:w(1*1|)", 8}, {"a:w(1*1|@0", 10}, {"a:w(1*01|@0)", 7}, {"a:w(1*1*1|@0)", 7},
		{"a:f(1)", 5}, {"a:f(|@0)", 4}, {"a:f(1*1|@0)", 5}, {"a:f(1|@0|@0)", 8}, {"a:f(1|@0,@0)", 8}, {"a:f(1|1)", 6}, {"a:f(1|@0}", 8},
		{"a:m(12:@1|@2)", 5}, {"a:m(2:@1|@2)", 4}, {"a:m(:@1|@2)", 4}, {"a:m(1 0:@1|@2)", 6}, {"a:m(1:@1,|@2)", 9}, {"a:m(1:@1)", 8}, {"a:m(1@1|@2)", 5}, {"a:m(1:|@2)", 6}, {"a:m(1:1|@2)", 6}, {"a:m(" + strings.Repeat("01", 16) + "1:@1|@2)", 36},
		{"a:g(01:@1|@2)", 5}, {"a:g(1|@2)", 5}, {"a:g(1:@1,2|@2)", 10}, {"a:g(1234567890:@1|@2)", 13},
		{"a:t(1)", 5}, {"a:t(1,)", 6}, {"a:t(,@1)", 4}, {"a:t(1|@1)", 5}, {"a:t(1,2,@1)", 6}, {"a:t(1,@1,@2)", 8}, {"a:t(01,@1)", 5}, {"a:t1,@1)", 3},
		{"a:@", 3}, {"a:@x", 3}, {"a:@01", 4}, {"a:@1 1", 5}, {"a:@@1", 3}, {"a:=", 3}, {"a:=1", 3}, {"a:=A", 3}, {"a:=bc", 4}, {"a:h(1|@0)", 2}, {"a:(@1)", 2}, {"a:a", 2}, {"a:1", 2},
		{"a:{1};", 6}, {"a:{1}; ", 7}, {"a:{1};;b:{1}", 6}, {"a:{1}b:{2}", 5}, {"a:{1},b:{2}", 5}, {"a:{1}}", 5}, {"a:{1};b", 7}, {"a:{1};:", 6},
		{"a\t:@1", 1}, {"a:\r@1", 2}, {"a:@1\x00", 4}, {"\x00", 0}, {"a:@1\xff", 4}, {"\xc3\xa4:@1", 0}, {"a:{1\u00a0}", 4}, {"a:{\u0663}", 3},
		{"a:{64};a:{1,1,}", 14}, {"a:=z;a:@99 x", 11},
		{"a:" + strings.Repeat("t(1,", 499), 1998}, {strings.Repeat("(", 2000), 0}, {strings.Repeat(" ", 2000), 2000}, {"a:" + strings.Repeat("{", 1998), 3}, {"a:" + strings.Repeat("=", 1998), 3},
	} {
		errno, at := steer.Check(k.text)
		if errno != api.ErrText || at != k.at {
			t.Errorf("Check(%.80q) = %d, %d, want ErrText, %d", k.text, errno, at, k.at)
		}
		sameForm(t, k.text)
	}
}

func TestFormRight(t *testing.T) { // P4: what has the form is not ErrText, whatever else is wrong with it
	for _, text := range []string{
		"a:{1,2}", "z:@0", "\n a\n:\n {\n1 ,\n2 } \n", " a : t ( 30 , f ( 7 | @ 3 ) ) ", "a:w ( 1 * 2 , 3 * 4 | = a )", "a:m ( 0 : @ 1 , 01 : @ 2 | @ 3 )", "a:g ( 0 : @ 1 , 10 : @ 2 | @ 3 ) ; b : = a",
		"a:{999999999}", "a:@999999999", "a:t(0,=q)", "a:{1,1,1}", "a:@0;a:@0", "a:m(" + strings.Repeat("1", 32) + ":@0|@0)", "a:m(1:m(1:m(1:m(1:@0|@0)|@0)|@0)|@0)",
		"a:{0" + strings.Repeat(",1", 997) + "}", "a:@0" + strings.Repeat(";a:@0", 399),
		"a:" + strings.Repeat("t(1,", 399) + "@0" + strings.Repeat(")", 399),
	} {
		errno, at := steer.Check(text)
		if errno == api.ErrText || errno == api.ErrLong {
			t.Errorf("Check(%.80q) = %d, %d", text, errno, at)
		}
		sameForm(t, text)
	}
}

func TestLong(t *testing.T) { // P4
	text := strings.Repeat(" ", api.MaxText-4) + "a:@1"
	for _, k := range []struct {
		text  string
		errno api.Errno
		at    int
	}{
		{text, api.OK, 0}, {text + " ", api.ErrLong, 0}, {text[1:] + ")", api.ErrText, api.MaxText - 1}, {text + ")", api.ErrLong, 0},
		{strings.Repeat("\x00", api.MaxText), api.ErrText, 0}, {strings.Repeat("\x00", api.MaxText+1), api.ErrLong, 0}, {strings.Repeat("t(1,", 5000000), api.ErrLong, 0},
	} {
		errno, at := steer.Check(k.text)
		if errno != k.errno || at != k.at {
			t.Errorf("Check of %d bytes = %d, %d, want %d, %d", len(k.text), errno, at, k.errno, k.at)
		}
	}
}

func TestFormOfAllShortTexts(t *testing.T) { // P4
	const signs = "{}wfmgt()|,*:;=@a012 \t"
	for _, head := range []string{"", "a:", "a:{1", "a:w(1", "a:f(1|@1", "a:m(1", "a:m(1:@1", "a:g(0", "a:t(1,=a"} {
		texts := []string{head}
		for range 3 {
			longer := []string{}
			for _, text := range texts {
				sameForm(t, text)
				for _, c := range signs {
					longer = append(longer, text+string(c))
				}
			}
			texts = longer
		}
		for _, text := range texts {
			sameForm(t, text)
		}
	}
}

// edited is a text with some bytes more, fewer, or others.
func edited(r *rand.Rand, text string) string {
	const signs = "{}wfmgt()|,*:;=@az0123456789 \n\t\x00\xff"
	b := []byte(text)
	for range 1 + r.Intn(3) {
		i := r.Intn(len(b) + 1)
		c := signs[r.Intn(len(signs))]
		switch r.Intn(3) {
		case 0:
			b = append(b[:i], append([]byte{c}, b[i:]...)...)
		case 1:
			if i < len(b) {
				b = append(b[:i], b[i+1:]...)
			}
		default:
			if i < len(b) {
				b[i] = c
			}
		}
	}
	return string(b)
}

func TestFormDrawn(t *testing.T) { // P4
	r := rand.New(rand.NewSource(2))
	for range 3000 {
		text := newDraft(r, 8, 300).text.String()
		if len(text) > api.MaxText-3 {
			continue
		}
		sameForm(t, text)
		sameForm(t, text[:r.Intn(len(text)+1)])
		for range 5 {
			sameForm(t, edited(r, text))
		}
	}
}

func TestFormStepByStep(t *testing.T) { // P4: a right text that is cut off ends too early, or is right
	r := rand.New(rand.NewSource(3))
	for range 100 {
		text := newDraft(r, 0, 200).text.String()
		for n := 0; n < len(text) && n <= api.MaxText; n++ {
			errno, at := steer.Check(text[:n])
			if errno == api.ErrText && at != n {
				t.Fatalf("Check(%q) = ErrText, %d", text[:n], at)
			}
		}
	}
}
