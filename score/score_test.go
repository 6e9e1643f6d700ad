package score

import (
	"math/rand"
	"slices"
	"testing"

	"tollway/api"
	"tollway/detect"
	"tollway/plate"
)

func read(kind, time, lane, score int) api.Seen {
	return api.Seen{Kind: kind, Time: time, Lane: lane, Point: "p", D: api.Detection{Score: score}}
}

func tagged(tag string, time int) api.Seen {
	return api.Seen{Kind: api.DTag, Time: time, Point: "p", D: api.Detection{Tag: tag}}
}

func photo(plate string, time int) api.Seen {
	return api.Seen{Kind: api.DCamera, Time: time, Point: "p", D: api.Detection{Plate: plate, Score: 1000}}
}

// P15.1
func TestPair(t *testing.T) {
	other := read(api.DCamera, 100, 1, 1000)
	other.Point = "q"
	for i, x := range []struct {
		a, b api.Seen
		want int
	}{
		{read(1, 100, 1, 950), read(2, 103, 2, 800), 105}, {read(1, 103, 1, 1000), read(2, 100, 1, 1000), 30}, {read(1, 100, 1, 1000), read(2, 120, 1, 1000), 200}, {read(1, 100, 1, 1000), read(2, 121, 1, 1000), -1}, {read(1, 121, 1, 1000), read(2, 100, 1, 1000), -1}, {read(1, 100, 1, 1000), read(2, 100, 1, 1000), 0},
		{read(1, 100, 1, 0), read(2, 120, 0, 0), 450}, {read(1, 100, 1, -50), read(2, 100, 1, 1200), 100}, {read(1, 100, 1, 999), read(2, 100, 1, 991), 0}, {read(1, 100, 1, 990), read(2, 100, 1, 981), 2},
		{read(2, 100, 1, 1000), read(1, 100, 1, 1000), -1}, {read(1, 100, 1, 1000), read(1, 100, 1, 1000), -1}, {read(2, 100, 1, 1000), read(2, 100, 1, 1000), -1}, {read(1, 100, 1, 1000), read(3, 100, 1, 1000), -1}, {read(1, 100, 1, 1000), other, -1}, {read(1, 0, 1, 1000), read(2, api.MaxTime-1, 1, 1000), -1},
	} {
		if n := Pair(x.a, x.b); n != x.want {
			t.Error(i, n)
		}
	}
}

// P15.2
func TestAxles(t *testing.T) {
	for i, x := range []struct {
		p    api.Passage
		lane int
		s    api.Seen
		want int
	}{
		{api.Passage{Point: "p", Time: 100}, 1, read(3, 98, 1, 0), 10}, {api.Passage{Point: "p", Time: 100}, 1, read(3, 110, 2, 0), 90}, {api.Passage{Point: "p", Time: 100}, 1, read(3, 90, 1, 0), 50}, {api.Passage{Point: "p", Time: 100}, 1, read(3, 100, 1, 0), 0},
		{api.Passage{Point: "p", Time: 100}, 1, read(3, 111, 1, 0), -1}, {api.Passage{Point: "p", Time: 100}, 1, read(3, 89, 1, 0), -1}, {api.Passage{Point: "q", Time: 100}, 1, read(3, 98, 1, 0), -1}, {api.Passage{Point: "p", Time: 100}, 1, read(2, 98, 1, 0), -1}, {api.Passage{Point: "p", Time: 100}, 1, read(1, 98, 1, 0), -1},
	} {
		if n := Axles(x.p, x.lane, x.s); n != x.want {
			t.Error(i, n)
		}
	}
}

// P15.3
func TestMerge(t *testing.T) {
	l := []api.Seen{photo("AB12", 9), tagged("U", 4), tagged("T", 5), read(3, 1, 1, 1), photo("XY99", 3), photo("A812", 7), tagged("U", 6), photo("A8I2", 8), {Kind: 9, Time: 2}}
	got := Merge(l)
	want := [][]api.Seen{{l[4]}, {l[1], l[6]}, {l[2]}, {l[5], l[7], l[0]}}
	if !slices.EqualFunc(got, want, slices.Equal[[]api.Seen]) {
		t.Error(got)
	}
	// The first reading of a group decides, not one that joined it.
	l = []api.Seen{photo("1II0", 1), photo("1110", 2), photo("1I1O", 3), photo("I11O", 4), photo("III1", 5)}
	got = Merge(l)
	if len(got) != 3 || len(got[0]) != 3 || !plate.Same("1II0", "1I1O") || plate.Same("1II0", "I11O") || !plate.Same("1110", "I11O") || got[1][0].D.Plate != "I11O" {
		t.Error(got)
	}
	if got := Merge(nil); len(got) != 0 {
		t.Error(got)
	}
}

// P15.3, P15.8
func TestMergeAnyOrder(t *testing.T) {
	r := rand.New(rand.NewSource(1))
	for range 1000 {
		l := make([]api.Seen, r.Intn(10))
		for i := range l {
			switch r.Intn(3) {
			case 0:
				l[i] = tagged(string(rune('T'+r.Intn(3))), r.Intn(9))
			case 1:
				l[i] = photo([]string{"A0", "AO", "AD", "B1", "BI"}[r.Intn(5)], r.Intn(9))
			default:
				l[i] = read(r.Intn(5), r.Intn(9), 1, 1)
			}
		}
		groups := Merge(l)
		count := map[api.Seen]int{}
		tags := map[string]bool{}
		for i, g := range groups {
			if i > 0 && detect.Compare(groups[i-1][0], g[0]) > 0 || !slices.IsSortedFunc(g, detect.Compare) {
				t.Fatal("order", groups)
			}
			if g[0].Kind == api.DTag {
				if tags[g[0].D.Tag] {
					t.Fatal("one tag twice", groups)
				}
				tags[g[0].D.Tag] = true
			}
			for _, s := range g {
				count[s]++
				if s.Kind != g[0].Kind || s.Kind == api.DTag && s.D.Tag != g[0].D.Tag || s.Kind == api.DCamera && !plate.Same(s.D.Plate, g[0].D.Plate) {
					t.Fatal("does not belong", g)
				}
			}
		}
		for _, s := range l {
			if s.Kind == api.DTag || s.Kind == api.DCamera {
				count[s]--
			}
		}
		for s, n := range count {
			if n != 0 {
				t.Fatal(s, n)
			}
		}
		r.Shuffle(len(l), func(i, j int) { l[i], l[j] = l[j], l[i] })
		if !slices.EqualFunc(Merge(l), groups, slices.Equal[[]api.Seen]) {
			t.Fatal("the order matters", l)
		}
	}
}

func equal(a, b api.Matrix) bool {
	return slices.EqualFunc(a.Cost, b.Cost, slices.Equal[[]int]) && slices.Equal(a.Row, b.Row) && slices.Equal(a.Col, b.Col)
}

// P15.4
func TestMatrix(t *testing.T) {
	tags := [][]api.Seen{{read(1, 100, 1, 1000), read(1, 110, 1, 1000)}, {read(1, 300, 1, 1000)}}
	plates := [][]api.Seen{{read(2, 125, 1, 1000), read(2, 112, 1, 1000)}, {read(2, 295, 2, 1000)}, {}}
	if m := Matrix(tags, plates); !equal(m, api.Matrix{Cost: [][]int{{20, -1, -1}, {-1, 100, -1}}, Row: []int{200, 200}, Col: []int{200, 200, 200}}) {
		t.Error(m)
	}
	// A pair that costs nothing is the least one; a pair that is not permitted does not matter, wherever it is.
	free := [][]api.Seen{{read(2, 105, 1, 1000), read(2, 100, 1, 1000), read(2, 103, 1, 1000), read(2, 500, 1, 1000)}}
	if m := Matrix(tags[:1], free); m.Cost[0][0] != 0 {
		t.Error(m)
	}
	if m := Matrix([][]api.Seen{{read(1, 100, 1, 1000), read(1, 900, 1, 1000)}}, [][]api.Seen{{read(2, 101, 1, 1000), read(2, 700, 1, 1000)}}); m.Cost[0][0] != 10 {
		t.Error(m)
	}
	if m := Matrix(nil, plates); !equal(m, api.Matrix{Col: []int{200, 200, 200}}) {
		t.Error(m)
	}
	if m := Matrix(tags, nil); !equal(m, api.Matrix{Cost: [][]int{{}, {}}, Row: []int{200, 200}}) {
		t.Error(m)
	}
}

// P15.5
func TestLoops(t *testing.T) {
	ps := []api.Passage{{Point: "p", Time: 100}, {Point: "p", Time: 105}}
	loops := []api.Seen{read(3, 95, 1, 0), read(3, 104, 0, 0)}
	if m := Loops(ps, []int{1}, loops); !equal(m, api.Matrix{Cost: [][]int{{25, 60}, {90, 5}}, Row: []int{100, 100}, Col: []int{100, 100}}) {
		t.Error(m)
	}
	if m := Loops(ps, []int{0, 1, 7}, loops[1:]); !equal(m, api.Matrix{Cost: [][]int{{20}, {45}}, Row: []int{100, 100}, Col: []int{100}}) {
		t.Error(m)
	}
}

// P15.6, P15.9
func TestConfidence(t *testing.T) {
	for _, x := range [][3]int{{105, 50, 595}, {0, -1, 1000}, {700, 0, 0}, {2600, -1, 0}, {2599, -1, 1}, {1600, -1, 1000}, {0, 0, 600}, {0, 200, 1000}, {0, 199, 998}, {1 << 35, -1, 0}, {0, 1 << 35, 1000}, {1 << 35, 1 << 35, 1000}, {600, 0, 0}, {599, 0, 1}} {
		if n := Confidence(x[0], x[1]); n != x[2] {
			t.Error(x, n)
		}
	}
	r := rand.New(rand.NewSource(2))
	for range 2000 {
		best, margin := r.Intn(1500), r.Intn(800)
		n := Confidence(best, margin)
		if Confidence(best+1, margin) > n || Confidence(best, margin+1) < n || Confidence(best, -1) != Confidence(best, 1000) {
			t.Error(best, margin)
		}
	}
}

// P15.7
func TestBounds(t *testing.T) {
	r := rand.New(rand.NewSource(3))
	for range 3000 {
		a, b := read(1, 100, r.Intn(2), r.Intn(1200)-100), read(2, 100+r.Intn(25), r.Intn(2), r.Intn(1200)-100)
		later := b
		later.Time++
		n, m := Pair(a, b), Pair(a, later)
		if n > 450 || m >= 0 && n >= 0 && m < n || n < 0 && m >= 0 {
			t.Error(a, b, n, m)
		}
		p := api.Passage{Point: "p", Time: 100}
		s := read(3, 100+r.Intn(15), r.Intn(2), 0)
		later = s
		later.Time++
		n, m = Axles(p, 1, s), Axles(p, 1, later)
		if n > 90 || m >= 0 && n >= 0 && m < n || n < 0 && m >= 0 {
			t.Error(s, n, m)
		}
	}
}
