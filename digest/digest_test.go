package digest

import (
	"encoding/binary"
	"hash/fnv"
	"math"
	"math/rand"
	"slices"
	"testing"

	"tollway/api"
)

// P8.1
func TestHash(t *testing.T) {
	if h := Hash(nil); h != 14695981039346656037 {
		t.Error(h)
	}
	if h := Hash([]byte("a")); h != 12638187200555641996 {
		t.Error(h)
	}
	r := rand.New(rand.NewSource(1))
	for range 100 {
		b := make([]byte, r.Intn(40))
		r.Read(b)
		f := fnv.New64a()
		f.Write(b)
		if Hash(b) != f.Sum64() {
			t.Error(b)
		}
		x, y := r.Uint64(), r.Uint64()
		if Join(x, y) != Hash(binary.BigEndian.AppendUint64(binary.BigEndian.AppendUint64(nil, x), y)) {
			t.Error(x, y)
		}
	}
}

// P8.2, P8.7
func TestChain(t *testing.T) {
	a, b := []byte("a"), []byte{}
	first := Join(7, Hash(a))
	if l := Chain(7, [][]byte{a, b}); !slices.Equal(l, []uint64{first, Join(first, Hash(b))}) {
		t.Error(l)
	}
	if l := Chain(7, nil); len(l) != 0 {
		t.Error(l)
	}
	if l := Chain(7, [][]byte{a, a}); l[0] != first || l[1] == Chain(7, [][]byte{a, b})[1] {
		t.Error(l)
	}
}

// P8.3
func TestRoot(t *testing.T) {
	for _, x := range []struct {
		l    []uint64
		want uint64
	}{
		{nil, 0}, {[]uint64{5}, 5}, {[]uint64{1, 2}, Join(1, 2)}, {[]uint64{1, 2, 3}, Join(Join(1, 2), 3)}, {[]uint64{1, 2, 3, 4}, Join(Join(1, 2), Join(3, 4))},
		{[]uint64{1, 2, 3, 4, 5}, Join(Join(Join(1, 2), Join(3, 4)), 5)}, {[]uint64{1, 2, 3, 4, 5, 6}, Join(Join(Join(1, 2), Join(3, 4)), Join(5, 6))},
	} {
		before := slices.Clone(x.l)
		if h := Root(x.l); h != x.want || !slices.Equal(before, x.l) {
			t.Error(x, h)
		}
	}
}

// P8.4
func TestProof(t *testing.T) {
	for _, x := range []struct {
		l    []uint64
		i    int
		want []uint64
		e    api.Errno
	}{
		{[]uint64{1, 2, 3}, 2, []uint64{Join(1, 2)}, api.OK}, {[]uint64{1, 2, 3}, 0, []uint64{2, 3}, api.OK}, {[]uint64{1, 2, 3}, 1, []uint64{1, 3}, api.OK}, {[]uint64{1}, 0, nil, api.OK}, {[]uint64{1, 2, 3, 4, 5}, 4, []uint64{Join(Join(1, 2), Join(3, 4))}, api.OK}, {[]uint64{1, 2, 3, 4, 5}, 3, []uint64{3, Join(1, 2), 5}, api.OK},
		{[]uint64{1, 2, 3}, 3, nil, api.ErrRange}, {[]uint64{1, 2, 3}, -1, nil, api.ErrRange}, {nil, 0, nil, api.ErrRange}, {nil, math.MinInt, nil, api.ErrRange},
	} {
		if p, e := Proof(x.l, x.i); !slices.Equal(p, x.want) || e != x.e {
			t.Error(x, p, int(e))
		}
	}
}

// P8.5
func TestVerify(t *testing.T) {
	root := Join(Join(1, 2), 3)
	for _, x := range []struct {
		root, leaf uint64
		i, n       int
		proof      []uint64
		want       bool
	}{
		{root, 3, 2, 3, []uint64{Join(1, 2)}, true}, {root, 1, 0, 3, []uint64{2, 3}, true}, {5, 5, 0, 1, nil, true},
		{root, 3, 2, 3, nil, false}, {root, 3, 2, 3, []uint64{Join(1, 2), 0}, false}, {root, 3, 2, 4, []uint64{Join(1, 2)}, false}, {root, 3, 3, 3, []uint64{Join(1, 2)}, false}, {root, 3, -1, 3, []uint64{Join(1, 2)}, false}, {root, 1, 1, 3, []uint64{2, 3}, false}, {root, 2, 0, 3, []uint64{2, 3}, false}, {root + 1, 1, 0, 3, []uint64{2, 3}, false},
		{5, 5, 0, 0, nil, false}, {5, 5, 0, 1, []uint64{1}, false}, {5, 5, 0, -1, nil, false}, {5, 5, math.MaxInt - 1, math.MaxInt, nil, false}, {5, 5, math.MaxInt - 1, math.MaxInt, make([]uint64, 63), false}, {5, 5, 0, math.MaxInt, make([]uint64, 100), false}, {5, 5, math.MinInt, math.MinInt, nil, false},
	} {
		if Verify(x.root, x.leaf, x.i, x.n, x.proof) != x.want {
			t.Error(x)
		}
	}
	// The last one of 2^62 + 1 leaves moves up through 62 levels, and is joined once.
	if !Verify(Join(8, 9), 9, 1<<62, 1<<62+1, []uint64{8}) || Verify(Join(9, 8), 9, 1<<62, 1<<62+1, []uint64{8}) {
		t.Error("a very large tree")
	}
}

// P8.8
func TestProofs(t *testing.T) {
	for n := 1; n < 40; n++ {
		l := make([]uint64, n)
		for i := range l {
			l[i] = uint64(i * i)
		}
		root := Root(l)
		for i := range l {
			p, e := Proof(l, i)
			if e != api.OK || !Verify(root, l[i], i, n, p) || Verify(root, l[i]+1, i, n, p) || Verify(root, l[i], i, n, append(slices.Clone(p), 0)) {
				t.Fatal(n, i, p)
			}
			for k := range p {
				if Verify(root, l[i], i, n, slices.Delete(slices.Clone(p), k, k+1)) {
					t.Fatal("an element is missing", n, i, k)
				}
				q := slices.Clone(p)
				q[k]++
				if Verify(root, l[i], i, n, q) {
					t.Fatal("an element differs", n, i, k)
				}
			}
		}
	}
}

// P8.6
func TestDiffer(t *testing.T) {
	for _, x := range []struct {
		a, b []uint64
		want []int
		n    int
	}{
		{[]uint64{1, 2, 3}, []uint64{1, 2, 4}, []int{2}, 3}, {[]uint64{1, 2, 3}, []uint64{1, 2, 3}, nil, 1}, {[]uint64{1, 2, 3}, []uint64{0, 2, 3}, []int{0}, 5}, {nil, nil, nil, 0}, {[]uint64{1}, []uint64{2}, []int{0}, 1}, {[]uint64{1}, []uint64{1}, nil, 1},
		{nil, []uint64{1, 2}, []int{0, 1}, 0}, {[]uint64{1, 2, 3}, []uint64{1, 2}, []int{0, 1, 2}, 0}, {[]uint64{1, 2, 3, 4, 5}, []uint64{1, 2, 3, 4, 6}, []int{4}, 3}, {[]uint64{1, 2, 3, 4, 5}, []uint64{9, 9, 9, 9, 9}, []int{0, 1, 2, 3, 4}, 9},
	} {
		if l, n := Differ(x.a, x.b); !slices.Equal(l, x.want) || n != x.n {
			t.Error(x, l, n)
		}
	}
}

// P8.6, P8.9
func TestSearch(t *testing.T) {
	r := rand.New(rand.NewSource(2))
	for range 500 {
		a := make([]uint64, 1+r.Intn(40))
		b := slices.Clone(a)
		for range r.Intn(4) {
			b[r.Intn(len(b))] = r.Uint64()
		}
		var want []int
		for i := range a {
			if a[i] != b[i] {
				want = append(want, i)
			}
		}
		h := 0
		for 1<<h < len(a) {
			h++
		}
		l, n := Differ(a, b)
		if !slices.Equal(l, want) || n > 1+2*len(l)*h || n < 1 || (len(l) == 0) != (Root(a) == Root(b)) {
			t.Fatal(a, b, l, n)
		}
	}
}
