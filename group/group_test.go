package group

import (
	"math"
	"math/rand"
	"slices"
	"testing"

	"tollway/api"
	"tollway/detect"
)

func seen(point string, time int) api.Seen { return api.Seen{Point: point, Time: time} }

func at(point string, times ...int) []api.Seen {
	var l []api.Seen
	for _, t := range times {
		l = append(l, seen(point, t))
	}
	return l
}

func equal(a, b [][]api.Seen) bool { return slices.EqualFunc(a, b, slices.Equal[[]api.Seen]) }

// P14.1
func TestFrames(t *testing.T) {
	for i, x := range []struct {
		l    []api.Seen
		gap  int
		want [][]api.Seen
	}{
		{at("p", 14, 0, 11, 5), 5, [][]api.Seen{at("p", 0, 5), at("p", 11, 14)}}, {at("p", 14, 0, 11, 5), 6, [][]api.Seen{at("p", 0, 5, 11, 14)}},
		{append(at("q", 5), at("p", 5, 7)...), 6, [][]api.Seen{at("p", 5, 7), at("q", 5)}}, {append(at("q", 1, 9), at("p", 5, 30)...), 8, [][]api.Seen{at("q", 1, 9), at("p", 5), at("p", 30)}},
		{nil, 5, nil}, {at("p", 5, 5, 5), 0, [][]api.Seen{at("p", 5, 5, 5)}}, {at("p", 5, 5, 6), 0, [][]api.Seen{at("p", 5, 5), at("p", 6)}}, {at("p", 5, 5, 6), -1, [][]api.Seen{at("p", 5, 5), at("p", 6)}}, {at("p", 5, 6), math.MinInt, [][]api.Seen{at("p", 5), at("p", 6)}},
		{at("p", math.MinInt, math.MaxInt), math.MaxInt, [][]api.Seen{at("p", math.MinInt), at("p", math.MaxInt)}}, {at("p", -1, math.MaxInt-1), math.MaxInt, [][]api.Seen{at("p", -1, math.MaxInt-1)}}, {at("p", -2, math.MaxInt-1), math.MaxInt, [][]api.Seen{at("p", -2), at("p", math.MaxInt-1)}},
	} {
		before := slices.Clone(x.l)
		if f := Frames(x.l, x.gap); !equal(f, x.want) {
			t.Error(i, f)
		}
		if !slices.Equal(before, x.l) {
			t.Error("the argument is changed")
		}
	}
}

// P14.2
func TestSpan(t *testing.T) {
	for _, x := range []struct {
		f    []api.Seen
		want api.Interval
	}{
		{at("p", 11, 14), api.Interval{From: 11, To: 15}}, {at("p", 14, 11, 12), api.Interval{From: 11, To: 15}}, {at("p", 0), api.Interval{From: 0, To: 1}}, {at("p", api.MaxTime-1), api.Interval{From: api.MaxTime - 1, To: api.MaxTime}},
		{nil, api.Interval{}}, {at("p", 5, -1), api.Interval{}}, {at("p", 5, api.MaxTime), api.Interval{}}, {at("p", math.MaxInt), api.Interval{}},
	} {
		if i := Span(x.f); i != x.want {
			t.Error(x, i)
		}
	}
}

// P14.2
func TestTouch(t *testing.T) {
	f := append(at("p", 10, 20), at("q", 50)...)
	for _, x := range []struct {
		s    api.Seen
		gap  int
		want bool
	}{
		{seen("p", 15), 5, true}, {seen("p", 15), 4, false}, {seen("p", 25), 5, true}, {seen("p", 26), 5, false}, {seen("p", 5), 5, true}, {seen("p", 50), 5, false}, {seen("q", 50), 0, true}, {seen("q", 50), -7, true}, {seen("q", 51), -7, false}, {seen("p", math.MinInt), math.MaxInt, false}, {seen("p", math.MaxInt), math.MaxInt, true},
	} {
		if Touch(f, x.s, x.gap) != x.want {
			t.Error(x)
		}
	}
	if Touch(nil, seen("p", 1), 5) {
		t.Error("an empty frame")
	}
}

// P14.3
func TestInsert(t *testing.T) {
	l := [][]api.Seen{at("p", 0, 5), at("p", 11, 14)}
	if f, i := Insert(l, seen("p", 8), 5); !equal(f, [][]api.Seen{at("p", 0, 5, 8, 11, 14)}) || i != 0 {
		t.Error(f, i)
	}
	if f, i := Insert(l, seen("p", 20), 5); len(f) != 3 || i != 2 {
		t.Error(f, i)
	}
	if f, i := Insert(l, seen("a", 11), 5); len(f) != 3 || i != 1 || f[1][0].Point != "a" {
		t.Error(f, i)
	}
	if f, i := Insert(nil, seen("a", 11), 5); !equal(f, [][]api.Seen{at("a", 11)}) || i != 0 {
		t.Error(f, i)
	}
	// The frames of the argument may be any lists.
	if f, i := Insert([][]api.Seen{at("p", 30, 1), nil, at("p", 2)}, seen("p", 31), 1); !equal(f, [][]api.Seen{at("p", 1, 2), at("p", 30, 31)}) || i != 1 {
		t.Error(f, i)
	}
}

// P14.4
func TestParts(t *testing.T) {
	f := []api.Seen{{Lane: 3, Kind: 1, Time: 1}, {Lane: -1, Kind: 2}, {Lane: 3, Kind: 1}, {Lane: 0, Kind: 9}}
	if l := Lanes(f); !slices.Equal(l, []int{-1, 0, 3}) {
		t.Error(l)
	}
	if l := Lanes(nil); len(l) != 0 {
		t.Error(l)
	}
	if l := Of(f, 1); !slices.Equal(l, []api.Seen{f[0], f[2]}) {
		t.Error(l)
	}
	if l := Of(f, 3); len(l) != 0 {
		t.Error(l)
	}
}

// P14.1, P14.5 to P14.7
func TestRandom(t *testing.T) {
	r := rand.New(rand.NewSource(1))
	for range 2000 {
		l := make([]api.Seen, r.Intn(12))
		for i := range l {
			l[i] = api.Seen{Point: string(rune('p' + r.Intn(2))), Time: r.Intn(40), Lane: r.Intn(2)}
		}
		gap := r.Intn(6)
		f := Frames(l, gap)
		count := map[api.Seen]int{}
		for i, x := range f {
			if len(x) == 0 || !slices.IsSortedFunc(x, detect.Compare) || i > 0 && detect.Compare(f[i-1][0], x[0]) >= 0 {
				t.Fatal("order", f)
			}
			for k, s := range x {
				count[s]++
				if k > 0 && !Touch(x[k-1:k], s, gap) {
					t.Fatal("not close", gap, f)
				}
				for j, y := range f {
					if Touch(y, s, gap) != (i == j) {
						t.Fatal("frames touch", gap, f)
					}
				}
			}
		}
		for _, s := range l {
			count[s]--
		}
		for s, n := range count {
			if n != 0 {
				t.Fatal(s, n, f)
			}
		}
		r.Shuffle(len(l), func(i, j int) { l[i], l[j] = l[j], l[i] })
		if !equal(Frames(l, gap), f) {
			t.Fatal("the order matters", l)
		}
		var steps [][]api.Seen
		at := 0
		for _, s := range l {
			steps, at = Insert(steps, s, gap)
			if !slices.Contains(steps[at], s) {
				t.Fatal("the index is wrong", steps, at)
			}
		}
		if !equal(steps, f) {
			t.Fatal("steps", l, steps, f)
		}
	}
}
