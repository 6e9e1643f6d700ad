package chain

import (
	"math"
	"math/rand"
	"reflect"
	"slices"
	"strconv"
	"testing"

	"tollway/api"
	"tollway/topology"
)

func top() api.Topology {
	t := api.Topology{Systems: []api.System{{Name: "s"}}}
	for _, s := range []string{"a", "b", "c", "d"} {
		t.Net.Points = append(t.Net.Points, api.Point{Name: s, Kind: api.POpen, System: "s"})
	}
	t.Net.Links = []api.Link{{From: "a", To: "b", Min: 100, Max: 200}, {From: "b", To: "c", Min: 100, Max: 200}}
	return t
}

func at(point string, time int) api.Passage {
	return api.Passage{ID: point + strconv.Itoa(time), Point: point, Time: time, Sources: []api.Source{{Device: point}}}
}

func ids(l []api.Passage) []string {
	var r []string
	for _, p := range l {
		r = append(r, p.ID)
	}
	return r
}

// P19.1
func TestFollows(t *testing.T) {
	l := []api.Passage{at("c", 300), at("a", 0), at("b", 100), at("c", 150), at("a", 59), at("a", 60)}
	want := [][]int{nil, {0, 2, 5}, {0}, {0}, {0}, {0}}
	if r := Follows(top(), l); !slices.EqualFunc(r, want, slices.Equal[[]int]) {
		t.Error(r)
	}
	if r := Follows(top(), nil); len(r) != 0 {
		t.Error(r)
	}
	for i, x := range []struct {
		l    []api.Passage
		want bool
	}{
		{nil, true}, {[]api.Passage{at("a", 0)}, true}, {[]api.Passage{at("a", 0), at("b", 100), at("c", 200)}, true}, {[]api.Passage{at("a", 0), at("b", 100), at("c", 199)}, false}, {[]api.Passage{at("a", 0), at("b", 99), at("c", 300)}, false}, {[]api.Passage{at("b", 100), at("a", 0)}, false}, {[]api.Passage{at("a", 0), at("a", 0)}, false}, {[]api.Passage{at("a", 0), at("a", 60)}, true}, {[]api.Passage{at("c", 0), at("a", 299)}, false}, {[]api.Passage{at("c", 0), at("a", 300)}, true},
	} {
		if Feasible(top(), x.l) != x.want {
			t.Error(i)
		}
	}
}

// P19.2
func TestLongest(t *testing.T) {
	for i, x := range []struct {
		l    []api.Passage
		want []int
	}{
		{[]api.Passage{at("a", 0), at("b", 100), at("c", 150), at("c", 300)}, []int{0, 1, 3}}, {[]api.Passage{at("a", 0), at("b", 50)}, []int{0}}, {nil, nil}, {[]api.Passage{at("a", 5)}, []int{0}},
		{[]api.Passage{at("a", 0), at("b", 50), at("c", 150)}, []int{1, 2}}, {[]api.Passage{at("a", 100), at("b", 100), at("b", 200), at("c", 300), at("c", 301)}, []int{0, 2, 3}}, {[]api.Passage{at("b", 200), at("a", 0)}, []int{0}}, {[]api.Passage{at("a", 0), at("a", 0), at("b", 100), at("b", 100)}, []int{0, 2}},
	} {
		before := slices.Clone(x.l)
		if r := Longest(top(), x.l); !slices.Equal(r, x.want) {
			t.Error(i, r)
		}
		ps, out := Split(top(), x.l)
		var chain []api.Passage
		for _, k := range x.want {
			chain = append(chain, x.l[k])
		}
		if !slices.Equal(ids(ps), ids(chain)) || len(out) != len(x.l)-len(ps) {
			t.Error(i, ps, out)
		}
		for _, e := range out {
			if e.Why != api.WhyClone {
				t.Error(i, e)
			}
		}
		if !reflect.DeepEqual(before, x.l) {
			t.Error("changed")
		}
	}
	ps, out := Split(top(), []api.Passage{at("a", 0), at("b", 100), at("c", 150), at("c", 300)})
	if !slices.Equal(out, []api.Exclusion{{ID: "c150", Why: api.WhyClone}}) {
		t.Error(out)
	}
	ps[0].Sources[0].Seq = 5
	if x, _ := Split(top(), ps); x[0].Sources[0].Seq != 5 || &x[0].Sources[0] == &ps[0].Sources[0] {
		t.Error("shared memory")
	}
}

// P19.2, P19.4, P19.5: compared with all chains
func TestAllChains(t *testing.T) {
	r := rand.New(rand.NewSource(1))
	for range 800 {
		l := make([]api.Passage, r.Intn(9))
		for i := range l {
			l[i] = at(string(rune('a'+r.Intn(4))), 50*r.Intn(20))
		}
		if r.Intn(3) > 0 {
			slices.SortStableFunc(l, func(a, b api.Passage) int { return a.Time - b.Time })
		}
		var best []int
		for set := range 1 << len(l) {
			var c []int
			ok := true
			for i := range l {
				if set>>i&1 == 1 {
					ok = ok && (len(c) == 0 || topology.Feasible(top(), l[c[len(c)-1]], l[i]))
					c = append(c, i)
				}
			}
			if ok && (len(c) > len(best) || len(c) == len(best) && slices.Compare(c, best) < 0) {
				best = c
			}
		}
		if got := Longest(top(), l); !slices.Equal(got, best) {
			t.Fatal(ids(l), got, best)
		}
		ps, out := Split(top(), l)
		if len(ps)+len(out) != len(l) || !Feasible(top(), ps) || Feasible(top(), l) && len(out) > 0 {
			t.Fatal(ids(l), ids(ps), out)
		}
		f := Follows(top(), l)
		for i := range l {
			for j := range l {
				if slices.Contains(f[i], j) != topology.Feasible(top(), l[i], l[j]) || !slices.IsSorted(f[i]) {
					t.Fatal(ids(l), i, j)
				}
			}
		}
	}
}

// P19.3
func TestSegments(t *testing.T) {
	for i, x := range []struct {
		l    []api.Passage
		gap  int
		want [][]string
	}{
		{[]api.Passage{at("a", 0), at("b", 150), at("c", 400)}, 0, [][]string{{"a0", "b150"}, {"c400"}}}, {[]api.Passage{at("a", 0), at("b", 150), at("c", 400)}, 50, [][]string{{"a0", "b150", "c400"}}}, {[]api.Passage{at("a", 0), at("b", 150), at("c", 400)}, 49, [][]string{{"a0", "b150"}, {"c400"}}}, {[]api.Passage{at("a", 0), at("b", 200)}, -5, [][]string{{"a0", "b200"}}}, {[]api.Passage{at("a", 0), at("b", 201)}, math.MinInt, [][]string{{"a0"}, {"b201"}}},
		{[]api.Passage{at("a", 0), at("a", 10)}, 9, [][]string{{"a0"}, {"a10"}}}, {[]api.Passage{at("a", 0), at("a", 10)}, 10, [][]string{{"a0", "a10"}}}, {[]api.Passage{at("a", 0), at("c", 400)}, 0, [][]string{{"a0", "c400"}}}, {[]api.Passage{at("b", 0), at("a", 10)}, math.MaxInt, [][]string{{"b0"}, {"a10"}}}, {[]api.Passage{at("a", 0), at("a", api.MaxTime-1)}, math.MaxInt, [][]string{{"a0", "a68719476735"}}}, {[]api.Passage{at("a", 5), at("a", 0)}, 0, [][]string{{"a5", "a0"}}},
		{nil, 5, nil}, {[]api.Passage{at("d", 5)}, 0, [][]string{{"d5"}}},
	} {
		var got [][]string
		for _, s := range Segments(top(), x.l, x.gap) {
			got = append(got, ids(s))
		}
		if !slices.EqualFunc(got, x.want, slices.Equal[[]string]) {
			t.Error(i, got)
		}
	}
	l := []api.Passage{at("a", 0)}
	Segments(top(), l, 0)[0][0].Sources[0].Seq = 9
	if l[0].Sources[0].Seq != 0 {
		t.Error("shared memory")
	}
}

// P19.6
func TestSegmentsAreTheList(t *testing.T) {
	r := rand.New(rand.NewSource(2))
	for range 500 {
		l := make([]api.Passage, r.Intn(9))
		time := 0
		for i := range l {
			time += 60 + 50*r.Intn(10)
			l[i] = at(string(rune('a'+r.Intn(3))), time)
		}
		gap := r.Intn(300)
		s, more := Segments(top(), l, gap), Segments(top(), l, gap+r.Intn(200))
		if !slices.Equal(ids(slices.Concat(s...)), ids(l)) || len(more) > len(s) {
			t.Fatal(ids(l), s, more)
		}
		for _, x := range s {
			if len(x) == 0 || Feasible(top(), l) && !Feasible(top(), x) {
				t.Fatal(ids(l), ids(x))
			}
		}
	}
}

// R1: other arguments terminate without a panic.
func TestOtherArguments(t *testing.T) {
	l := []api.Passage{at("x", 0), at("a", -5), at("a", math.MaxInt), at("b", math.MinInt), {}}
	bad := top()
	bad.Net.Links[0].Min = -1
	for _, x := range []api.Topology{top(), bad, {}} {
		Follows(x, l)
		Feasible(x, l)
		Longest(x, l)
		Split(x, l)
		Segments(x, l, 5)
	}
}
