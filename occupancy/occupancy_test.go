package occupancy

import (
	"math"
	"math/rand"
	"slices"
	"testing"

	"tollway/api"
)

func example() api.Scale {
	return api.Scale{Period: 60, Up: []int{10, 20}, Down: []int{5, 15}, Parts: []int{1000, 1500, 2000}}
}

func steps(n, from, step int) []int {
	var l []int
	for i := range n {
		l = append(l, from+i*step)
	}
	return l
}

// P23.1
func TestCheck(t *testing.T) {
	for i, x := range []struct {
		s api.Scale
		e api.Errno
	}{
		{example(), api.OK}, {api.Scale{Period: 1, Parts: []int{0}}, api.OK}, {api.Scale{Period: 86400, Up: steps(8, 1, 1), Down: steps(8, 0, 1), Parts: steps(9, 10000, 0)}, api.OK},
		{api.Scale{Up: steps(9, 1, 1)}, api.ErrLimit}, {api.Scale{}, api.ErrArg}, {api.Scale{Period: 0, Parts: []int{1}}, api.ErrArg}, {api.Scale{Period: 86401, Parts: []int{1}}, api.ErrArg}, {api.Scale{Period: -1, Parts: []int{1}}, api.ErrArg}, {api.Scale{Period: 1}, api.ErrArg}, {api.Scale{Period: 1, Parts: []int{1, 2}}, api.ErrArg}, {api.Scale{Period: 1, Up: []int{5}, Parts: []int{1, 2}}, api.ErrArg}, {api.Scale{Period: 1, Up: []int{5}, Down: []int{1}, Parts: []int{1}}, api.ErrArg},
		{api.Scale{Period: 1, Up: []int{5}, Down: []int{5}, Parts: []int{1, 1}}, api.ErrArg}, {api.Scale{Period: 1, Up: []int{5}, Down: []int{-1}, Parts: []int{1, 1}}, api.ErrArg}, {api.Scale{Period: 1, Up: []int{api.MaxNumber + 1}, Down: []int{0}, Parts: []int{1, 1}}, api.ErrArg}, {api.Scale{Period: 1, Up: []int{api.MaxNumber}, Down: []int{0}, Parts: []int{1, 1}}, api.OK},
		{api.Scale{Period: 1, Up: []int{5, 5}, Down: []int{1, 2}, Parts: []int{1, 1, -1}}, api.ErrOrder}, {api.Scale{Period: 1, Up: []int{5, 6}, Down: []int{2, 2}, Parts: []int{1, 1, 1}}, api.ErrOrder}, {api.Scale{Period: 1, Up: []int{5, 4}, Down: []int{2, 4}, Parts: []int{1, 1, 1}}, api.ErrArg},
		{api.Scale{Period: 1, Parts: []int{-1}}, api.ErrArg}, {api.Scale{Period: 1, Parts: []int{10001}}, api.ErrArg}, {api.Scale{Period: 1, Parts: []int{10000}}, api.OK},
	} {
		if e := Check(x.s); e != x.e {
			t.Error(i, int(e))
		}
		if x.e != api.OK && (Next(x.s, 1, 100) != 0 || len(Levels(x.s, []int{1, 2})) != 0 || len(Counts(x.s, []int{1, 2}, 0, 5)) != 0 || At(x.s, steps(50, 0, 0), 1) != 0 || Part(x.s, 0) != 0 || Part(x.s, 99) != 0) {
			t.Error("a scale that is not valid", i)
		}
	}
}

// P23.2
func TestNext(t *testing.T) {
	for _, x := range [][3]int{{0, 10, 1}, {0, 25, 2}, {2, 14, 1}, {2, 4, 0}, {2, 15, 2}, {0, 9, 0}, {1, 20, 2}, {1, 19, 1}, {1, 5, 1}, {1, 4, 0}, {-7, 10, 1}, {9, 15, 2}, {9, 14, 1}, {math.MinInt, math.MinInt, 0}, {math.MaxInt, math.MaxInt, 2}, {0, 20, 2}, {2, -1, 0}} {
		if n := Next(example(), x[0], x[1]); n != x[2] {
			t.Error(x, n)
		}
	}
	if l := Levels(example(), []int{10, 5, 4, 30, 0}); !slices.Equal(l, []int{0, 1, 1, 0, 2}) {
		t.Error(l)
	}
	if l := Levels(example(), nil); len(l) != 0 {
		t.Error(l)
	}
	if l := Levels(example(), []int{99}); !slices.Equal(l, []int{0}) {
		t.Error(l)
	}
}

// P23.3
func TestCounts(t *testing.T) {
	for i, x := range []struct {
		times   []int
		from, n int
		want    []int
	}{
		{[]int{0, 59, 60, 130}, 0, 2, []int{2, 1}}, {[]int{130, 0, 60, 59}, 0, 3, []int{2, 1, 1}}, {[]int{0, 59, 60, 130}, 1, 2, []int{2, 0}}, {[]int{0, 59, 60, 130}, 5, 0, nil}, {[]int{math.MinInt, -1, math.MaxInt, 0, 119}, 0, 2, []int{1, 1}}, {nil, 0, 2, []int{0, 0}},
		{[]int{1}, -1, 2, nil}, {[]int{1}, api.MaxTime, 2, nil}, {[]int{1}, 0, -1, nil}, {[]int{1}, 0, api.MaxList + 1, nil}, {[]int{1}, math.MinInt, math.MaxInt, nil},
	} {
		if l := Counts(example(), x.times, x.from, x.n); !slices.Equal(l, x.want) {
			t.Error(i, l)
		}
	}
	if l := Counts(example(), []int{api.MaxTime + 5}, api.MaxTime-1, api.MaxList); len(l) != api.MaxList || l[0] != 1 {
		t.Error(len(l))
	}
}

// P23.4
func TestAt(t *testing.T) {
	ten := steps(10, 70, 0)
	for at, want := range map[int]int{0: 0, 60: 0, 119: 0, 120: 1, 179: 1, 180: 0, -1: 0, api.MaxTime: 0, math.MaxInt: 0, math.MinInt: 0} {
		if n := At(example(), ten, at); n != want {
			t.Error(at, n)
		}
	}
	// What was more than 64 periods ago does not count, even if the level would have been kept since then.
	var keep []int
	for p := range 200 {
		keep = append(keep, steps(5, 60*p, 0)...)
	}
	rise := append(slices.Clone(keep), steps(5, 6000, 0)...) // ten in period 100
	for p, want := range map[int]int{100: 0, 101: 1, 150: 1, 164: 1, 165: 0, 180: 0} {
		if n := At(example(), rise, 60*p+30); n != want {
			t.Error(p, n)
		}
	}
}

// P23.5
func TestPart(t *testing.T) {
	for level, want := range map[int]int{0: 1000, 1: 1500, 2: 2000, 3: 1000, -1: 1000, math.MinInt: 1000, math.MaxInt: 1000} {
		if n := Part(example(), level); n != want {
			t.Error(level, n)
		}
	}
}

// P23.5: the first level need not have the whole price.
func TestFirstPart(t *testing.T) {
	s := example()
	s.Parts[0] = 700
	for level, want := range map[int]int{0: 700, 1: 1500, -1: 1000, 3: 1000} {
		if n := Part(s, level); n != want {
			t.Error(level, n)
		}
	}
}

// P23.6 to P23.8
func TestConsequences(t *testing.T) {
	r := rand.New(rand.NewSource(1))
	for range 2000 {
		s := api.Scale{Period: 1 + r.Intn(50), Parts: []int{0}}
		up, down := 0, -1
		for range r.Intn(5) {
			down += 1 + r.Intn(3)
			up = max(up, down) + 1 + r.Intn(5)
			s.Up, s.Down, s.Parts = append(s.Up, up), append(s.Down, down), append(s.Parts, r.Intn(10001))
		}
		if Check(s) != api.OK {
			t.Fatal(s)
		}
		level, count := r.Intn(7)-1, r.Intn(30)
		n := Next(s, level, count)
		if n < 0 || n > len(s.Up) || Next(s, level, count+1) < n || Next(s, level+1, count) < n {
			t.Fatal(s, level, count, n)
		}
		for i := 1; i <= len(s.Up); i++ {
			if count >= s.Down[i-1] && level >= i && n < i || count < s.Up[i-1] && level < i && n >= i {
				t.Fatal("hysteresis", s, level, count, n)
			}
		}
		times := make([]int, r.Intn(60))
		for i := range times {
			times[i] = r.Intn(4000)
		}
		at := r.Intn(4000)
		p := at / s.Period
		first := max(p-64, 0)
		l := Levels(s, append(Counts(s, times, first*s.Period, p-first), 0))
		got := At(s, times, at)
		if got != l[len(l)-1] {
			t.Fatal(s, times, at, got, l)
		}
		r.Shuffle(len(times), func(i, j int) { times[i], times[j] = times[j], times[i] })
		var window []int
		for _, x := range times {
			if x >= first*s.Period && x < p*s.Period {
				window = append(window, x)
			}
		}
		if At(s, times, at) != got || At(s, window, at) != got {
			t.Fatal("the order or other times matter")
		}
	}
}
