package match

import (
	"math"
	"math/rand"
	"slices"
	"testing"

	"tollway/api"
)

// P6.1
func TestCheck(t *testing.T) {
	nine := make([]int, 9)
	eight := make([][]int, 8)
	for i := range eight {
		eight[i] = make([]int, 8)
	}
	for _, x := range []struct {
		m api.Matrix
		e api.Errno
	}{
		{api.Matrix{}, api.OK}, {api.Matrix{Row: []int{1}, Cost: [][]int{nil}}, api.OK}, {api.Matrix{Col: []int{1}}, api.OK}, {api.Matrix{Cost: eight, Row: nine[:8], Col: nine[:8]}, api.OK},
		{api.Matrix{Cost: [][]int{{-1}}, Row: []int{0}, Col: []int{api.MaxNumber}}, api.OK}, {api.Matrix{Cost: [][]int{{api.MaxNumber}}, Row: []int{api.MaxNumber}, Col: []int{0}}, api.OK},
		{api.Matrix{Row: nine}, api.ErrLimit}, {api.Matrix{Col: nine, Cost: [][]int{{-2}}}, api.ErrLimit}, {api.Matrix{Row: []int{1}}, api.ErrArg}, {api.Matrix{Cost: [][]int{nil}}, api.ErrArg},
		{api.Matrix{Cost: [][]int{{1}}, Row: []int{1}}, api.ErrArg}, {api.Matrix{Cost: [][]int{{1}, {}}, Row: []int{1, 1}, Col: []int{1}}, api.ErrArg},
		{api.Matrix{Cost: [][]int{{-2}}, Row: []int{0}, Col: []int{0}}, api.ErrArg}, {api.Matrix{Cost: [][]int{{api.MaxNumber + 1}}, Row: []int{0}, Col: []int{0}}, api.ErrArg},
		{api.Matrix{Cost: [][]int{{0}}, Row: []int{-1}, Col: []int{0}}, api.ErrArg}, {api.Matrix{Cost: [][]int{{0}}, Row: []int{api.MaxNumber + 1}, Col: []int{0}}, api.ErrArg}, {api.Matrix{Cost: [][]int{{0}}, Row: []int{0}, Col: []int{-1}}, api.ErrArg}, {api.Matrix{Cost: [][]int{{0}}, Row: []int{0}, Col: []int{math.MaxInt}}, api.ErrArg},
	} {
		if e := Check(x.m); e != x.e {
			t.Error(x, int(e))
		}
		if x.e == api.OK {
			continue
		}
		// P6.2 to P6.5 of a matrix that is not valid
		if n, e := Total(x.m, nil); n != 0 || e != x.e {
			t.Error("Total", n, int(e))
		}
		if a, n, e := Best(x.m); len(a) != 0 || n != 0 || e != x.e {
			t.Error("Best", a, n, int(e))
		}
		if n, e := Ties(x.m); n != 0 || e != x.e {
			t.Error("Ties", n, int(e))
		}
		if a, n, ok := Second(x.m); len(a) != 0 || n != 0 || ok {
			t.Error("Second", a, n)
		}
		if n, ok := With(x.m, 0, -1); n != 0 || ok {
			t.Error("With", n)
		}
	}
}

// P6.2
func TestTotal(t *testing.T) {
	m := api.Matrix{Cost: [][]int{{1, 4}, {2, -1}}, Row: []int{9, 8}, Col: []int{7, 6}}
	for _, x := range []struct {
		a []int
		n int
		e api.Errno
	}{
		{[]int{1, 0}, 6, api.OK}, {[]int{-1, -1}, 30, api.OK}, {[]int{0, -1}, 15, api.OK}, {[]int{-1, 0}, 17, api.OK},
		{[]int{0, 0}, 0, api.ErrExists}, {[]int{0, 1}, 0, api.ErrArg}, {[]int{2, 0}, 0, api.ErrRange}, {[]int{-2, 0}, 0, api.ErrRange}, {[]int{0}, 0, api.ErrRange}, {nil, 0, api.ErrRange}, {[]int{0, 1, -1}, 0, api.ErrRange}, {[]int{1, 1}, 0, api.ErrExists}, {[]int{0, 2}, 0, api.ErrRange}, {[]int{math.MaxInt, math.MinInt}, 0, api.ErrRange},
	} {
		if n, e := Total(m, x.a); n != x.n || e != x.e {
			t.Error(x, n, int(e))
		}
	}
}

// P6.3 to P6.5: the examples
func TestExamples(t *testing.T) {
	m := api.Matrix{Cost: [][]int{{1, 4}, {2, 3}}, Row: []int{9, 9}, Col: []int{9, 9}}
	if a, n, e := Best(m); !slices.Equal(a, []int{0, 1}) || n != 4 || e != api.OK {
		t.Error(a, n, int(e))
	}
	if a, n, ok := Second(m); !slices.Equal(a, []int{1, 0}) || n != 6 || !ok {
		t.Error(a, n, ok)
	}
	if n, ok := With(m, 0, -1); n != 20 || !ok {
		t.Error(n, ok)
	}
	m = api.Matrix{Cost: [][]int{{0, 0}}, Row: []int{5}, Col: []int{0, 0}}
	if a, n, e := Best(m); !slices.Equal(a, []int{0}) || n != 0 || e != api.OK {
		t.Error(a, n, int(e))
	}
	if a, n, ok := Second(m); !slices.Equal(a, []int{1}) || n != 0 || !ok {
		t.Error(a, n, ok)
	}
	if n, e := Ties(m); n != 2 || e != api.OK {
		t.Error(n, int(e))
	}
	m = api.Matrix{Cost: [][]int{{-1}}, Row: []int{1}, Col: []int{2}}
	if a, n, e := Best(m); !slices.Equal(a, []int{-1}) || n != 3 || e != api.OK {
		t.Error(a, n, int(e))
	}
	if a, n, ok := Second(m); len(a) != 0 || n != 0 || ok {
		t.Error(a, n, ok)
	}
	if a, n, e := Best(api.Matrix{}); len(a) != 0 || n != 0 || e != api.OK {
		t.Error(a, n, int(e))
	}
	if n, e := Ties(api.Matrix{}); n != 1 || e != api.OK {
		t.Error(n, int(e))
	}
	for _, ij := range [][2]int{{-1, 0}, {1, 0}, {0, 1}, {0, -2}, {0, 0}, {math.MinInt, 0}, {0, math.MaxInt}} {
		if n, ok := With(m, ij[0], ij[1]); n != 0 || ok {
			t.Error(ij, n, ok)
		}
	}
}

// all enumerates the assignments in their order, without the solver.
func all(m api.Matrix, a []int, yield func([]int)) {
	if len(a) == len(m.Row) {
		yield(slices.Clone(a))
		return
	}
	for j := range m.Col {
		if !slices.Contains(a, j) && m.Cost[len(a)][j] >= 0 {
			all(m, append(a, j), yield)
		}
	}
	all(m, append(a, -1), yield)
}

func random(r *rand.Rand, rows, cols, most int) api.Matrix {
	m := api.Matrix{Cost: make([][]int, rows), Row: make([]int, rows), Col: make([]int, cols)}
	for i := range m.Cost {
		m.Cost[i] = make([]int, cols)
		m.Row[i] = r.Intn(most + 1)
		for j := range cols {
			m.Cost[i][j] = r.Intn(most+2) - 1
			m.Col[j] = r.Intn(most + 1)
		}
	}
	return m
}

// P6.3 to P6.7
func TestOptimal(t *testing.T) {
	r := rand.New(rand.NewSource(1))
	for range 1500 {
		m := random(r, r.Intn(5), r.Intn(5), []int{1, 3, 50, api.MaxNumber}[r.Intn(4)])
		var best, second []int
		low, next, ties := -1, -1, 0
		with := map[[2]int]int{}
		all(m, nil, func(a []int) {
			n, e := Total(m, a)
			if e != api.OK {
				t.Fatal(m, a, int(e))
			}
			if low < 0 || n < low {
				best, low, ties = a, n, 0
			}
			if n == low {
				ties++
			}
			for i, j := range a {
				if old, ok := with[[2]int{i, j}]; !ok || n < old {
					with[[2]int{i, j}] = n
				}
			}
		})
		all(m, nil, func(a []int) {
			n, _ := Total(m, a)
			if !slices.Equal(a, best) && (next < 0 || n < next) {
				second, next = a, n
			}
		})
		if a, n, e := Best(m); !slices.Equal(a, best) || n != low || e != api.OK {
			t.Fatal(m, a, n, int(e), best, low)
		}
		if n, e := Ties(m); n != ties || e != api.OK {
			t.Fatal(m, n, int(e), ties)
		}
		if a, n, ok := Second(m); !slices.Equal(a, second) || n != max(next, 0) || ok != (next >= 0) || (ties == 1) != (!ok || n > low) {
			t.Fatal(m, a, n, ok, second, next)
		}
		for i := range m.Row {
			least := math.MaxInt
			for j := -1; j < len(m.Col); j++ {
				n, ok := With(m, i, j)
				if want, has := with[[2]int{i, j}]; n != want || ok != has {
					t.Fatal(m, i, j, n, ok, want, has)
				}
				if ok {
					least = min(least, n)
				}
			}
			if least != low {
				t.Fatal(m, i, least, low)
			}
		}
	}
}

// P6.8, also of the largest matrices
func TestSymmetric(t *testing.T) {
	r := rand.New(rand.NewSource(2))
	for range 60 {
		m := random(r, r.Intn(9), r.Intn(9), []int{2, 100}[r.Intn(2)])
		x := api.Matrix{Row: m.Col, Col: m.Row, Cost: make([][]int, len(m.Col))}
		for j := range m.Col {
			for i := range m.Row {
				x.Cost[j] = append(x.Cost[j], m.Cost[i][j])
			}
		}
		a, n, _ := Best(m)
		b, k, _ := Best(x)
		p, _ := Ties(m)
		q, _ := Ties(x)
		if n != k || p != q {
			t.Fatal(m, a, b, n, k, p, q)
		}
		if sum, e := Total(m, a); sum != n || e != api.OK {
			t.Fatal(m, a, n, sum, int(e))
		}
	}
	m := random(r, 8, 8, 0)
	for i := range m.Cost {
		m.Cost[i] = make([]int, 8)
	}
	if n, e := Ties(m); n != 1441729 || e != api.OK {
		t.Error(n, int(e))
	}
	if a, n, ok := Second(m); !slices.Equal(a, []int{0, 1, 2, 3, 4, 5, 6, -1}) || n != 0 || !ok {
		t.Error(a, n, ok)
	}
}
