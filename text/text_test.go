package text

import (
	"math"
	"math/rand"
	"slices"
	"strings"
	"testing"

	"tollway/api"
)

// P1.1
func TestName(t *testing.T) {
	for _, s := range []string{"a", "z", "a0", "a9", "a-1", "a-", "zz", "abcdefghijkl"} {
		if !Name(s) {
			t.Error("not a name:", s)
		}
	}
	for _, s := range []string{"", "1a", "0", "9a", "-a", "-", "aB", "A", "abcdefghijklm", "a b", "a_b", "a.b", "`", "{", "a`", "a{", "a/", "a:", "aé", "é", "a\xff", "a\x00", "a\n"} {
		if Name(s) {
			t.Error("a name:", s)
		}
	}
	for c := range 256 {
		first := c >= 'a' && c <= 'z'
		later := first || c >= '0' && c <= '9' || c == '-'
		if Name(string([]byte{byte(c)})) != first || Name("x"+string([]byte{byte(c)})+"x") != later {
			t.Error("the byte", c)
		}
	}
}

// P1.2
func TestFields(t *testing.T) {
	for _, x := range []struct {
		line string
		want []string
		e    api.Errno
	}{
		{"", nil, api.OK},
		{"a", []string{"a"}, api.OK},
		{"a b", []string{"a", "b"}, api.OK},
		{"abc ! ~", []string{"abc", "!", "~"}, api.OK},
		{strings.Repeat("x", 512), []string{strings.Repeat("x", 512)}, api.OK},
		{" ", nil, api.ErrForm},
		{" a", nil, api.ErrForm},
		{"a ", nil, api.ErrForm},
		{"a  b", nil, api.ErrForm},
		{"a\tb", nil, api.ErrForm},
		{"a\x1fb", nil, api.ErrForm},
		{"a\x7f", nil, api.ErrForm},
		{"é", nil, api.ErrForm},
		{"\x80", nil, api.ErrForm},
		{"a\n", nil, api.ErrForm},
		{strings.Repeat("x", 513), nil, api.ErrLong},
		{strings.Repeat("\x00", 513), nil, api.ErrLong},
		{strings.Repeat(" ", 512), nil, api.ErrForm},
	} {
		if l, e := Fields(x.line); !slices.Equal(l, x.want) || e != x.e {
			t.Errorf("Fields(%q): %q %d", x.line, l, int(e))
		}
	}
	for c := range 256 {
		want := api.ErrForm
		if c > 32 && c <= 126 {
			want = api.OK
		}
		if _, e := Fields("x " + string([]byte{byte(c)})); e != want {
			t.Error("the byte", c, int(e))
		}
	}
}

// P1.3
func TestJoin(t *testing.T) {
	for _, x := range []struct {
		l    []string
		want string
	}{{nil, ""}, {[]string{""}, ""}, {[]string{"", ""}, " "}, {[]string{"a"}, "a"}, {[]string{"a b", "\xff", ""}, "a b \xff "}} {
		if s := Join(x.l); s != x.want {
			t.Errorf("Join(%q): %q", x.l, s)
		}
	}
}

// P1.4
func TestNumber(t *testing.T) {
	for _, x := range []struct {
		s string
		n int
		e api.Errno
	}{
		{"0", 0, api.OK}, {"1", 1, api.OK}, {"9", 9, api.OK}, {"10", 10, api.OK}, {"-1", -1, api.OK}, {"-10", -10, api.OK},
		{"2147483648", 1 << 31, api.OK}, {"-2147483648", -1 << 31, api.OK}, {"2147483647", 1<<31 - 1, api.OK},
		{"2147483649", 0, api.ErrRange}, {"-2147483649", 0, api.ErrRange}, {"10000000000", 0, api.ErrRange},
		{"18446744073709551616", 0, api.ErrRange}, {"18446744073709551617", 0, api.ErrRange}, {"-" + strings.Repeat("9", 600), 0, api.ErrRange},
		{"", 0, api.ErrForm}, {"-", 0, api.ErrForm}, {"+", 0, api.ErrForm}, {"-0", 0, api.ErrForm}, {"00", 0, api.ErrForm}, {"007", 0, api.ErrForm},
		{"-01", 0, api.ErrForm}, {"+1", 0, api.ErrForm}, {"--1", 0, api.ErrForm}, {"1-", 0, api.ErrForm}, {" 1", 0, api.ErrForm}, {"1 ", 0, api.ErrForm},
		{"1a", 0, api.ErrForm}, {"/", 0, api.ErrForm}, {":", 0, api.ErrForm}, {"0x1", 0, api.ErrForm}, {"99999999999x", 0, api.ErrForm}, {"1\xff", 0, api.ErrForm}, {"٣", 0, api.ErrForm},
	} {
		if n, e := Number(x.s); n != x.n || e != x.e {
			t.Errorf("Number(%q): %d %d", x.s, n, int(e))
		}
	}
}

// P1.5, P1.9
func TestFormat(t *testing.T) {
	for n, want := range map[int]string{0: "0", 7: "7", -7: "-7", 1000: "1000", math.MaxInt: "9223372036854775807", math.MinInt: "-9223372036854775808"} {
		if s := Format(n); s != want {
			t.Error(n, s)
		}
	}
	r := rand.New(rand.NewSource(1))
	for range 1000 {
		n := r.Intn(2*api.MaxNumber+1) - api.MaxNumber
		if m, e := Number(Format(n)); m != n || e != api.OK {
			t.Error(n, m, int(e))
		}
		if s := Format(n >> r.Intn(31)); true {
			if m, e := Number(s); e != api.OK || Format(m) != s {
				t.Error(s, m, int(e))
			}
		}
	}
}

// P1.6
func TestLines(t *testing.T) {
	for s, want := range map[string][]string{
		"": nil, "a": {"a"}, "a\n": {"a"}, "\n": {""}, "\n\n": {"", ""}, "a\n\nb": {"a", "", "b"}, "a\r\n\xff\x00 \n": {"a\r", "\xff\x00 "}, "é\nü": {"é", "ü"},
	} {
		if l, e := Lines(s); !slices.Equal(l, want) || e != api.OK {
			t.Errorf("Lines(%q): %q %d", s, l, int(e))
		}
	}
	for n, want := range map[int]api.Errno{api.MaxText: api.OK, api.MaxText + 1: api.ErrLong} {
		l, e := Lines(strings.Repeat("a\n", n/2) + strings.Repeat("b", n%2))
		if e != want || e == api.OK && len(l) != n/2 || e != api.OK && len(l) > 0 {
			t.Error(n, len(l), int(e))
		}
	}
}

// P1.7, P1.8
func TestEscape(t *testing.T) {
	for s, want := range map[string]string{"": "%", "%": "%25", "a b%": "a%20b%25", "\n": "%0A", "\x7f": "%7F", "\x00\xff": "%00%FF", "é": "%C3%A9", "!~": "!~", "%%": "%25%25"} {
		if x := Escape(s); x != want {
			t.Errorf("Escape(%q): %q", s, x)
		}
		if x, e := Unescape(want); x != s || e != api.OK {
			t.Errorf("Unescape(%q): %q %d", want, x, int(e))
		}
	}
	for _, s := range []string{"", "%%", "%a", "%4", "%2", "a%", "a%0", "%41", "%7E", "%21", "%2a", "%0a", "%7f", "%25%", "a b", " ", "\x7f", "\x00", "é", "%0G", "%G0", "% 0", "%-1", "\n"} {
		if x, e := Unescape(s); x != "" || e != api.ErrForm {
			t.Errorf("Unescape(%q): %q %d", s, x, int(e))
		}
	}
	for c := range 256 {
		b := string([]byte{byte(c)})
		want := b
		if c < 33 || c > 126 || c == '%' {
			want = "%" + string("0123456789ABCDEF"[c/16]) + string("0123456789ABCDEF"[c%16])
		}
		if x := Escape(b); x != want {
			t.Error("the byte", c, x)
		}
	}
}

func randomString(r *rand.Rand, letters string, most int) string {
	b := make([]byte, r.Intn(most+1))
	for i := range b {
		b[i] = letters[r.Intn(len(letters))]
	}
	return string(b)
}

// P1.10
func TestEscapeInverse(t *testing.T) {
	r := rand.New(rand.NewSource(2))
	for range 3000 {
		s := randomString(r, "a %\n\x00\xffZ0", 6)
		x := Escape(s)
		if y, e := Unescape(x); y != s || e != api.OK {
			t.Errorf("%q %q %q", s, x, y)
		}
		if l, e := Fields(x); e != api.OK || len(l) != 1 || l[0] != x {
			t.Errorf("not one field: %q", x)
		}
		x = randomString(r, "%%025AaF", 7)
		if y, e := Unescape(x); e == api.OK && Escape(y) != x {
			t.Errorf("%q is accepted as %q", x, y)
		}
	}
}

// P1.11
func TestLinesInverse(t *testing.T) {
	r := rand.New(rand.NewSource(3))
	for range 3000 {
		s := randomString(r, "ab\n \xff", 8)
		l, _ := Lines(s)
		back := ""
		for _, x := range l {
			back += x + "\n"
		}
		want := s
		if s != "" && !strings.HasSuffix(s, "\n") {
			want += "\n"
		}
		if back != want {
			t.Errorf("%q %q", s, back)
		}
		s = randomString(r, "ab ", 8)
		if l, e := Fields(s); e == api.OK && Join(l) != s {
			t.Errorf("%q %q", s, l)
		}
	}
}
