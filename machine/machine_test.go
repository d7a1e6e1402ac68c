package machine

import (
	"slices"
	"strings"
	"testing"

	"steer/api"
	"steer/policy"
)

func compile(t *testing.T, text string) []byte {
	t.Helper()
	p, errno, _ := policy.Read(text)
	if errno != api.OK {
		t.Fatalf("Read(%q) = %d", text, errno)
	}
	code, errno := Compile(p)
	if errno != api.OK {
		t.Fatalf("Compile(%q) = %d", text, errno)
	}
	return code
}

func TestCode(t *testing.T) { // the layout that is told at the head of the package
	for _, k := range []struct {
		text string
		code []byte
	}{
		{"a:{1,63}", []byte{'{', 2, 1, 63}},
		{"a:@15", []byte{'@', 15}},
		{"a:t(86400,@1)", []byte{'t', 0x80, 0x51, 1, '@', 1}},
		{"a:w(3*1,4*1000|@1)", []byte{'w', 2, 3, 1, 0, 4, 0xE8, 3, '@', 1}},
		{"a:f(3,4|@1)", []byte{'f', 2, 3, 4, '@', 1}},
		{"a:m(1:{5},01:@2|@1)", []byte{'m', 2, 0, 0, 0, 0x80, 1, 2, 0, 0, 0, 0, 0x40, 2, 5, 0, '@', 1, '{', 1, 5, '@', 2}},
		{"a:@1;b:@2;c:g(99:=b,0:{7}|=a);d:=c", []byte{'g', 2, 99, 2, 0, 0, 4, 0, '@', 1, '@', 2, '{', 1, 7}},
	} {
		code := compile(t, k.text)
		if !slices.Equal(code, k.code) {
			t.Errorf("the code of %q is %v, want %v", k.text, code, k.code)
		}
	}
}

func TestSteps(t *testing.T) { // one for each expression on the way
	for _, k := range []struct {
		text  string
		steps int
	}{
		{"a:{1}", 1}, {"a:@0", 1}, {"a:{1};b:=a;c:=b", 1}, {"a:f(1|{2})", 1}, {"a:f(0|{2})", 2}, {"a:w(0*1|f(0|@0))", 3}, {"a:m(0:@1|t(1,@2))", 2}, {"a:m(1:@1|t(1,@2))", 3}, {"a:g(1:@1|t(1,@2))", 3}, {"a:" + strings.Repeat("t(1,", 11) + "{1}" + strings.Repeat(")", 11), 12},
	} {
		code := compile(t, k.text)
		w := api.World{Down: []int{0}}
		_, less := Run(code, w, k.steps-1)
		_, errno := Run(code, w, k.steps)
		if less != api.ErrFuel || errno != api.OK {
			t.Errorf("Run of %q with %d steps = %d, and with one less %d", k.text, k.steps, errno, less)
		}
	}
}

func TestBytesThatAreNoCode(t *testing.T) {
	for _, code := range [][]byte{
		{}, {0}, {'='}, {'a'}, {255}, {0, '@', 1}, {'=', '@', 1},
		{'{'}, {'{', 0}, {'{', 1}, {'{', 1, 64}, {'{', 2, 1}, {'{', 17, 0, 1, 2, 3, 4, 5, 6, 7, 8, 9, 10, 11, 12, 13, 14, 15, 16},
		{'@'}, {'@', 16}, {'t', 1, 0, 0}, {'t', 0, 0, 0, '@', 1}, {'t', 0x81, 0x51, 1, '@', 1}, {'t', 1, 0},
		{'w', 0, '@', 1}, {'w', 1, 3, 0, 0, '@', 1}, {'w', 1, 3, 0xE9, 3, '@', 1}, {'w', 1, 64, 1, 0, '@', 1}, {'w', 1, 3, 1}, {'w', 1, 0, 1, 0},
		{'f', 0, '@', 1}, {'f', 1, 64, '@', 1}, {'f', 1, 0}, {'f', 2, 0},
		{'m', 0, '@', 1}, {'m', 1, 0, 0, 0, 0, 33, 0, 0, '@', 1}, {'m', 1, 1, 0, 0, 0, 31, 0, 0, '@', 1}, {'m', 1, 0, 0, 0, 0, 1, 2, 0, '@', 1}, {'m', 1, 0, 0, 0, 0, 1, 255, 255, '@', 1},
		{'g', 0, '@', 1}, {'g', 1, 100, 0, 0, '@', 1}, {'g', 1, 5, 2, 0, '@', 1}, {'g', 1, 5, 2}, {'g', 1, 5, 1, 0, '@', 1},
	} {
		w := api.World{Down: []int{0}, Places: []api.Place{{Region: 5}}}
		a, errno := Run(code, w, 100)
		if errno != api.ErrCode || a.Servers != nil || a.TTL != 0 || a.Scope != 0 {
			t.Errorf("Run of the bytes %v = %+v, %d, want ErrCode", code, a, errno)
		}
	}
}

func TestCompileFull(t *testing.T) {
	p, _, _ := policy.Read("a:{0,1,2,3,4,5,6,7,8,9};b:m(0:=a,1:=a,01:=a|=a);c:m(0:=b,1:=b,01:=b|=b);d:m(0:=c,1:=c,01:=c|=c);e:m(0:=d,1:=d,01:=d|=d)")
	code, errno := Compile(p)
	if code != nil || errno != api.ErrFull {
		t.Errorf("Compile = %v, %d", code, errno)
	}
	if len(encode(nil)) != 0 {
		t.Errorf("nothing has code")
	}
}
