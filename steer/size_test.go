package steer_test

import (
	"strings"
	"testing"

	"steer/api"
	"steer/steer"
)

// sameSize compares the size of a draft's last rule.
func sameSize(t *testing.T, d *draft, errno api.Errno) {
	t.Helper()
	want := 0
	if errno == api.OK {
		want = min(d.last, api.MaxSize+1)
	}
	size, e := steer.Size(d.text.String())
	if size != want || e != errno {
		t.Fatalf("Size(%q) = %d, %d, want %d, %d", d.text.String(), size, e, want, errno)
	}
}

func TestSizeOrdinary(t *testing.T) { // P6
	for _, k := range []struct {
		text  string
		size  int
		errno api.Errno
	}{
		{"a:{1,2}", 3, api.OK}, {"a:{1,2};b:m(10:=a,1:{3}|w(4*1|@0))", 11, api.OK}, {" a : t ( 30 , f ( 7 | @ 3 ) ) ", 4, api.OK},
		{"a:@0", 1, api.OK}, {"a:{0}", 2, api.OK}, {"a:w(1*1,2*9|{1,2,3})", 7, api.OK}, {"a:f(1,2,3|@1)", 5, api.OK}, {"a:m(0:@0|@0)", 4, api.OK}, {"a:m(0:{1,2},1:@0|f(1|@0))", 10, api.OK}, {"a:g(0:{1,2},1:@0|f(1|@0))", 10, api.OK}, {"a:t(9,@0)", 2, api.OK},
		{"a:{1,2,3};b:=a", 4, api.OK}, {"a:{1,2,3};b:=a;c:=b", 4, api.OK}, {"a:{1,2,3};b:@0", 1, api.OK}, {"a:{1};b:g(1:=a,2:=a|=a)", 9, api.OK},
		{"", 0, api.ErrText}, {"a:{64}", 0, api.ErrNumber}, {"a:=a", 0, api.ErrName}, {"a:{1,1}", 0, api.ErrTwice}, {"a:{" + sixteen + ",16}", 0, api.ErrMany}, {"a:" + within(12, "@1"), 0, api.ErrDeep}, {strings.Repeat(" ", api.MaxText+1), 0, api.ErrLong},
	} {
		size, errno := steer.Size(k.text)
		if size != k.size || errno != k.errno {
			t.Errorf("Size(%.80q) = %d, %d, want %d, %d", k.text, size, errno, k.size, k.errno)
		}
	}
}

// The sizes of these rules: a is 10, b is 101, c is 827, d is 941, e is 992.
const rules = "a:{0,1,2,3,4,5,6,7,8}" +
	";b:m(0:=a,00:=a,01:=a,1:=a,10:=a,11:=a,000:=a,001:=a|f(0|=a))" +
	";c:m(0:=b,00:=b,01:=b,1:=b,10:=b,11:=b,000:=b,001:=b|{0,1,2,3,4,5,6,7,8})" +
	";d:m(0:=c,1:=b|=a)" +
	";e:m(0:=d|w(0*1,1*1,2*1|f(" + sixteen + "|f(0,1,2,3,4,5,6,7,8,9|{" + sixteen + "}))))"

func TestSizeBound(t *testing.T) { // P6
	for _, k := range []struct {
		more string
		size int
	}{
		{";f:=a", 10}, {";f:=b", 101}, {";f:=c", 827}, {";f:=d", 941}, {"", 992}, {";f:=e", 992},
		{";f:f(0,1,2,3,4,5|=e)", 999}, {";f:f(0,1,2,3,4,5,6|=e)", 1000}, {";f:f(0,1,2,3,4,5,6|=e);g:=f", 1000},
		{";f:f(0,1,2,3,4,5,6,7|=e)", 1001}, {";f:f(0,1,2,3,4,5,6,7,8|=e)", 1001}, {";f:f(0,1,2,3,4,5,6|=e);g:t(1,=f)", 1001},
		{";f:m(0:=e|=e)", 1001}, {";f:m(0:=e|=e);g:=f", 1001}, {";f:m(0:=e|=e);g:t(1,=f)", 1001}, {";f:m(0:=e|=e);g:=a", 10},
	} {
		size, errno := steer.Size(rules + k.more)
		if size != k.size || errno != api.OK {
			t.Errorf("Size(..%q) = %d, %d, want %d", k.more, size, errno, k.size)
		}
	}
}

func TestSizeBeyondAllNumbers(t *testing.T) { // P1, P6
	text := "a:@0"
	for c := byte('b'); c <= 'z'; c++ {
		name := "=" + string(c-1)
		arms := []string{}
		for _, bits := range strings.Fields("0 1 00 01 10 11 000 001 010 011") {
			arms = append(arms, bits+":"+name)
		}
		text += ";" + string(c) + ":m(" + strings.Join(arms, ",") + "|" + name + ")"
	}
	size, errno := steer.Size(text)
	if size != api.MaxSize+1 || errno != api.OK {
		t.Errorf("Size of 11 to the 25th = %d, %d", size, errno)
	}
}
