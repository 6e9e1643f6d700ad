package codec

import (
	"bytes"
	"hash/crc32"
	"math"
	"math/rand"
	"strings"
	"testing"

	"tollway/api"
)

// P2.1
func TestPutInt(t *testing.T) {
	for n, want := range map[int][]byte{
		0: {0}, -1: {1}, 1: {2}, 63: {126}, -64: {127}, 64: {128, 1}, -65: {129, 1}, 8191: {254, 127}, 8192: {128, 128, 1},
		math.MaxInt: {254, 255, 255, 255, 255, 255, 255, 255, 255, 1}, math.MinInt: {255, 255, 255, 255, 255, 255, 255, 255, 255, 1},
	} {
		if b := PutInt([]byte{9, 8}, n); !bytes.Equal(b, append([]byte{9, 8}, want...)) {
			t.Error(n, b)
		}
	}
}

// P2.1
func TestPutText(t *testing.T) {
	if b := PutText([]byte{7}, "ab"); !bytes.Equal(b, []byte{7, 4, 97, 98}) {
		t.Error(b)
	}
	if b := PutText(nil, ""); !bytes.Equal(b, []byte{0}) {
		t.Error(b)
	}
	long := strings.Repeat("x", api.MaxText+1)
	if b := PutText(nil, long); string(b[3:]) != long {
		t.Error("a string beyond MaxText")
	}
}

// P2.1, P2.4: appending does not change the memory behind the argument, and does not share it.
func TestFreshMemory(t *testing.T) {
	b := make([]byte, 2, 100)
	for _, x := range [][]byte{PutInt(b, 77), PutText(b, "abc"), PutFrame(b, 3, []byte{4})} {
		x[0] = 99
	}
	for i, c := range b[:cap(b)] {
		if c != 0 {
			t.Error("changed at", i)
		}
	}
	f := PutFrame(nil, 1, []byte{5, 6})
	_, p, _, _ := Frame(f, 0)
	p[0] = 0
	if f[2] != 5 {
		t.Error("the payload shares the memory of the frame")
	}
}

// P2.2
func TestInt(t *testing.T) {
	big := bytes.Repeat([]byte{128}, 10)
	for _, x := range []struct {
		b  []byte
		at int
		n  int
		to int
		e  api.Errno
	}{
		{[]byte{128, 1}, 0, 64, 2, api.OK},
		{[]byte{5, 128, 1, 5}, 1, 64, 3, api.OK},
		{[]byte{128, 1}, 2, 0, 0, api.ErrShort},
		{[]byte{128, 1}, 3, 0, 0, api.ErrRange},
		{[]byte{128, 1}, -1, 0, 0, api.ErrRange},
		{[]byte{128, 1}, math.MinInt, 0, 0, api.ErrRange},
		{[]byte{128, 1}, math.MaxInt, 0, 0, api.ErrRange},
		{[]byte{128}, 0, 0, 0, api.ErrShort},
		{[]byte{128, 0}, 0, 0, 0, api.ErrForm},
		{[]byte{128, 128, 0}, 0, 0, 0, api.ErrForm},
		{[]byte{0}, 0, 0, 1, api.OK},
		{big, 0, 0, 0, api.ErrForm},
		{big, 1, 0, 0, api.ErrShort},
		{append(big[:9:9], 1), 0, 1 << 62, 10, api.OK},
		{append(big[:9:9], 2), 0, 0, 0, api.ErrForm},
		{append(big[:9:9], 127), 0, 0, 0, api.ErrForm},
		{append(big[:9:9], 0), 0, 0, 0, api.ErrForm},
	} {
		if n, to, e := Int(x.b, x.at); n != x.n || to != x.to || e != x.e {
			t.Error(x, n, to, int(e))
		}
	}
}

// P2.3
func TestText(t *testing.T) {
	long := PutText(nil, strings.Repeat("x", api.MaxText))
	if s, to, e := Text(long, 0); len(s) != api.MaxText || to != len(long) || e != api.OK {
		t.Error(len(s), to, int(e))
	}
	for _, x := range []struct {
		b  []byte
		at int
		s  string
		to int
		e  api.Errno
	}{
		{[]byte{7, 4, 97, 98, 7}, 1, "ab", 4, api.OK},
		{[]byte{0}, 0, "", 1, api.OK},
		{[]byte{1}, 0, "", 0, api.ErrForm},
		{[]byte{6, 97, 98}, 0, "", 0, api.ErrShort},
		{[]byte{6, 97, 98}, 4, "", 0, api.ErrRange},
		{[]byte{6, 97, 98}, 3, "", 0, api.ErrShort},
		{[]byte{128, 0}, 0, "", 0, api.ErrForm},
		{PutInt(nil, api.MaxText+1), 0, "", 0, api.ErrLong},
		{PutInt(nil, math.MaxInt), 0, "", 0, api.ErrLong},
		{PutInt(nil, math.MinInt), 0, "", 0, api.ErrForm},
		{PutInt(nil, api.MaxText), 0, "", 0, api.ErrShort},
	} {
		if s, to, e := Text(x.b, x.at); s != x.s || to != x.to || e != x.e {
			t.Error(x, s, to, int(e))
		}
	}
}

// P2.4
func TestSum(t *testing.T) {
	if n := Sum([]byte("123456789")); n != 3808858755 {
		t.Error(n)
	}
	if n := Sum(nil); n != 0 {
		t.Error(n)
	}
	r := rand.New(rand.NewSource(1))
	for range 200 {
		b := make([]byte, r.Intn(50))
		r.Read(b)
		if n := Sum(b); n != int(crc32.Checksum(b, crc32.MakeTable(crc32.Castagnoli))) {
			t.Error(b, n)
		}
	}
}

// P2.4
func TestPutFrame(t *testing.T) {
	for kind, want := range map[int]byte{0: 0, 255: 255, 256: 0, -1: 255, 300: 44, math.MinInt: 0} {
		b := PutFrame([]byte{9}, kind, []byte("hi"))
		n := Sum([]byte{want, 4, 'h', 'i'})
		if !bytes.Equal(b, []byte{9, want, 4, 'h', 'i', byte(n >> 24), byte(n >> 16), byte(n >> 8), byte(n)}) {
			t.Error(kind, b)
		}
	}
}

// P2.5
func TestFrame(t *testing.T) {
	b := PutFrame([]byte{9}, 5, []byte("hello"))
	if kind, p, to, e := Frame(append(b, 1), 1); kind != 5 || string(p) != "hello" || to != len(b) || e != api.OK {
		t.Error(kind, p, to, int(e))
	}
	broken := bytes.Clone(b)
	broken[len(b)-1]++
	for _, x := range []struct {
		b  []byte
		at int
		e  api.Errno
	}{
		{b, -1, api.ErrRange}, {b, len(b) + 1, api.ErrRange}, {b, math.MaxInt, api.ErrRange}, {b, len(b), api.ErrShort}, {nil, 0, api.ErrShort},
		{b[:2], 1, api.ErrShort}, {b[:5], 1, api.ErrShort}, {b[:len(b)-1], 1, api.ErrShort}, {b[:len(b)-4], 1, api.ErrShort},
		{[]byte{1, 1}, 0, api.ErrForm}, {append([]byte{1}, PutInt(nil, api.MaxText+1)...), 0, api.ErrLong}, {[]byte{1, 128, 0}, 0, api.ErrForm},
		{broken, 1, api.ErrSum}, {[]byte{1, 0, 0, 0, 0, 0}, 0, api.ErrSum},
	} {
		if kind, p, to, e := Frame(x.b, x.at); kind != 0 || len(p) != 0 || to != 0 || e != x.e {
			t.Error(x, kind, p, to, int(e))
		}
	}
}

// P2.6
func TestIntact(t *testing.T) {
	one := PutFrame(nil, 1, []byte{1, 2})
	two := PutFrame(one, 2, nil)
	wrong := bytes.Clone(two)
	wrong[len(wrong)-1]++
	for _, x := range []struct {
		b     []byte
		n, to int
	}{{nil, 0, 0}, {one, 1, len(one)}, {two, 2, len(two)}, {append(two[:len(two):len(two)], 1), 2, len(two)}, {wrong, 1, len(one)}, {[]byte{1}, 0, 0}} {
		if n, to := Intact(x.b); n != x.n || to != x.to {
			t.Error(x, n, to)
		}
	}
}

func randomInt(r *rand.Rand) int { return int(r.Uint64()) >> r.Intn(64) }

// P2.7
func TestInverse(t *testing.T) {
	r := rand.New(rand.NewSource(2))
	for range 2000 {
		before, after := make([]byte, r.Intn(4)), make([]byte, r.Intn(4))
		r.Read(before)
		r.Read(after)
		n := randomInt(r)
		b := PutInt(before, n)
		if m, to, e := Int(append(b[:len(b):len(b)], after...), len(before)); m != n || to != len(b) || e != api.OK {
			t.Error(n, m, to, int(e))
		}
		p := make([]byte, r.Intn(200))
		r.Read(p)
		b = PutText(before, string(p))
		if s, to, e := Text(append(b[:len(b):len(b)], after...), len(before)); s != string(p) || to != len(b) || e != api.OK {
			t.Error(s, to, int(e))
		}
		b = PutFrame(before, n, p)
		if kind, q, to, e := Frame(append(b[:len(b):len(b)], after...), len(before)); kind != int(byte(n)) || !bytes.Equal(p, q) || to != len(b) || e != api.OK {
			t.Error(kind, q, to, int(e))
		}
		r.Read(p)
		if m, to, e := Int(p, 0); e == api.OK && !bytes.Equal(PutInt(nil, m), p[:to]) {
			t.Error("another encoding of", m, p[:to])
		}
	}
}

// P2.8
func TestCut(t *testing.T) {
	n, s := PutInt(nil, math.MaxInt), PutText(nil, strings.Repeat("y", 70))
	f := PutFrame(nil, 1, []byte(strings.Repeat("y", 70)))
	for i := range n {
		if _, _, e := Int(n[:i], 0); e != api.ErrShort {
			t.Error(i, int(e))
		}
	}
	for i := range s {
		if _, _, e := Text(s[:i], 0); e != api.ErrShort {
			t.Error(i, int(e))
		}
	}
	three := PutFrame(PutFrame(f, 2, nil), 3, []byte{1})
	for i := range three {
		want, to := 0, 0
		if i >= len(f) {
			want, to = 1, len(f)
		}
		if i >= len(f)+6 {
			want, to = 2, len(f)+6
		}
		if got, at := Intact(three[:i]); got != want || at != to {
			t.Error(i, got, at)
		}
		if i < len(f) {
			if _, _, _, e := Frame(f[:i], 0); e != api.ErrShort {
				t.Error(i, int(e))
			}
		}
	}
}

// P2.9
func TestDamage(t *testing.T) {
	r := rand.New(rand.NewSource(3))
	for range 3000 {
		p := make([]byte, 8+r.Intn(30))
		r.Read(p)
		f := PutFrame(nil, 4, p)
		from := r.Intn(8*len(p) - 32)
		mask := 1 | r.Uint32()
		for i := range 32 {
			if mask>>i&1 == 1 {
				f[2+(from+i)/8] ^= 1 << ((from + i) % 8)
			}
		}
		if _, _, _, e := Frame(f, 0); e != api.ErrSum {
			t.Error(p, from, mask, int(e))
		}
	}
}
