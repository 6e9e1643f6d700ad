package graph

import (
	"math/rand"
	"slices"
	"strconv"
	"strings"
	"testing"
	"time"

	"tollway/api"
)

func point(name string) api.Point { return api.Point{Name: name, Kind: api.POpen} }

func link(from, to string, least, greatest int) api.Link {
	return api.Link{From: from, To: to, Min: least, Max: greatest}
}

func network(names string, links ...api.Link) api.Network {
	n := api.Network{Links: links}
	for _, s := range strings.Fields(names) {
		n.Points = append(n.Points, point(s))
	}
	return n
}

func example() api.Network {
	return network("d c b a", link("b", "d", 10, 20), link("a", "c", 5, 90), link("a", "b", 10, 20), link("c", "d", 15, 30), link("d", "a", 1, 1))
}

// P7.1
func TestCheck(t *testing.T) {
	full := api.Network{}
	for i := range api.MaxPoints {
		full.Points = append(full.Points, point("p"+strconv.Itoa(i)))
		for _, j := range []int{1, 2} {
			full.Links = append(full.Links, link("p"+strconv.Itoa(i), "p"+strconv.Itoa((i+j)%api.MaxPoints), 1, 1))
		}
	}
	for _, x := range []struct {
		n api.Network
		e api.Errno
	}{
		{api.Network{}, api.OK}, {example(), api.OK}, {full, api.OK},
		{api.Network{Points: append(full.Points[:64:64], api.Point{})}, api.ErrLimit}, {api.Network{Links: make([]api.Link, 129), Points: []api.Point{{}}}, api.ErrLimit}, {api.Network{Points: full.Points, Links: append(full.Links[:128:128], full.Links[0])}, api.ErrLimit},
		{network("A"), api.ErrName}, {api.Network{Points: []api.Point{{}}}, api.ErrName}, {network("a b a"), api.ErrExists}, {api.Network{Points: []api.Point{point("a"), {Name: "a", System: "X"}}}, api.ErrExists},
		{api.Network{Points: []api.Point{{Name: "a", Kind: 0, System: "X"}}}, api.ErrArg}, {api.Network{Points: []api.Point{{Name: "a", Kind: 5}}}, api.ErrArg}, {api.Network{Points: []api.Point{{Name: "a", Kind: -1}}}, api.ErrArg},
		{api.Network{Points: []api.Point{{Name: "a", Kind: 1, System: "X"}}}, api.ErrName}, {api.Network{Points: []api.Point{{Name: "a", Kind: 4, System: "x"}}}, api.OK},
		{api.Network{Points: []api.Point{{Name: "a", Kind: 1, System: "X"}, {}}, Links: []api.Link{{}}}, api.ErrName},
		{network("a b", link("a", "x", 0, 0)), api.ErrPoint}, {network("a b", link("x", "a", 1, 1)), api.ErrPoint}, {network("a b", link("a", "a", 1, 1)), api.ErrPoint}, {network("a b", link("a", "b", 1, 1), link("a", "b", 0, 1)), api.ErrExists}, {network("a b", link("a", "b", 1, 1), link("b", "a", 1, 1)), api.OK},
		{network("a b", link("a", "b", 0, 1)), api.ErrTime}, {network("a b", link("a", "b", 2, 1)), api.ErrTime}, {network("a b", link("a", "b", 1, api.MaxNumber+1)), api.ErrTime}, {network("a b", link("a", "b", api.MaxNumber, api.MaxNumber)), api.OK}, {network("a b", link("a", "b", -5, -5)), api.ErrTime}, {network("a b", link("a", "b", 0, 0), link("x", "x", 1, 1)), api.ErrTime},
	} {
		if e := Check(x.n); e != x.e {
			t.Error(x.n, int(e))
		}
	}
}

// P7.2 to P7.7 of a network that is not valid
func TestInvalid(t *testing.T) {
	n := example()
	n.Links = append(n.Links, link("a", "a", 1, 1))
	if p, ok := Find(n, "a"); ok || p != (api.Point{}) {
		t.Error(p, ok)
	}
	if l := Next(n, "a"); len(l) != 0 {
		t.Error(l)
	}
	if l, d, ok := Shortest(n, "a", "a"); len(l) != 0 || d != 0 || ok {
		t.Error(l, d, ok)
	}
	if l, e := Paths(n, "a", "a"); len(l) != 0 || e != api.ErrPoint {
		t.Error(l, int(e))
	}
	if a, b, e := Bounds(n, []string{"a"}); a != 0 || b != 0 || e != api.ErrPoint {
		t.Error(a, b, int(e))
	}
	if l := Reaches(n, "a"); len(l) != 0 {
		t.Error(l)
	}
}

// P7.2, P7.3, P7.7
func TestPoints(t *testing.T) {
	n := example()
	n.Points = append(n.Points, api.Point{Name: "x", Kind: api.PExit, System: "s"})
	if p, ok := Find(n, "x"); !ok || p != (api.Point{Name: "x", Kind: api.PExit, System: "s"}) {
		t.Error(p, ok)
	}
	if p, ok := Find(n, "y"); ok || p != (api.Point{}) {
		t.Error(p, ok)
	}
	for name, want := range map[string][2]string{"a": {"b c", "a b c d"}, "b": {"d", "a b c d"}, "d": {"a", "a b c d"}, "x": {"", "x"}, "y": {"", ""}, "": {"", ""}} {
		if l := strings.Join(Next(n, name), " "); l != want[0] {
			t.Error(name, l)
		}
		if l := strings.Join(Reaches(n, name), " "); l != want[1] {
			t.Error(name, l)
		}
	}
}

// P7.4
func TestShortest(t *testing.T) {
	n := network("a b c d e f", link("a", "b", 10, 20), link("b", "d", 10, 20), link("a", "c", 5, 90), link("c", "d", 15, 30), link("d", "a", 1, 1), link("d", "e", 5, 5), link("a", "e", 25, 25))
	for _, x := range []struct {
		from, to, path string
		d              int
		ok             bool
	}{
		{"a", "d", "a b d", 20, true}, {"a", "a", "a", 0, true}, {"a", "e", "a e", 25, true}, {"c", "b", "c d a b", 26, true}, {"f", "f", "f", 0, true},
		{"a", "f", "", 0, false}, {"f", "a", "", 0, false}, {"e", "a", "", 0, false}, {"a", "x", "", 0, false}, {"x", "a", "", 0, false}, {"x", "x", "", 0, false},
	} {
		if l, d, ok := Shortest(n, x.from, x.to); strings.Join(l, " ") != x.path || d != x.d || ok != x.ok {
			t.Error(x, l, d, ok)
		}
	}
}

// P7.5
func TestPaths(t *testing.T) {
	n := example()
	n.Points = append(n.Points, point("x"))
	for _, x := range []struct {
		from, to, want string
		e              api.Errno
	}{
		{"a", "d", "a b d,a c d", api.OK}, {"d", "d", "d", api.OK}, {"d", "c", "d a c", api.OK}, {"a", "x", "", api.OK}, {"x", "a", "", api.OK}, {"a", "y", "", api.ErrPoint}, {"y", "a", "", api.ErrPoint},
	} {
		l, e := Paths(n, x.from, x.to)
		var got []string
		for _, p := range l {
			got = append(got, strings.Join(p, " "))
		}
		if strings.Join(got, ",") != x.want || e != x.e {
			t.Error(x, got, int(e))
		}
	}
}

// P7.5: paths of 16 points, and not of 17
func TestLongPaths(t *testing.T) {
	n := api.Network{}
	for i := range 17 {
		n.Points = append(n.Points, point("p"+strconv.Itoa(i)))
		if i > 0 {
			n.Links = append(n.Links, link("p"+strconv.Itoa(i-1), "p"+strconv.Itoa(i), 1, 1))
		}
	}
	if l, e := Paths(n, "p0", "p15"); len(l) != 1 || len(l[0]) != 16 || e != api.OK {
		t.Error(l, int(e))
	}
	if l, e := Paths(n, "p0", "p16"); len(l) != 0 || e != api.OK {
		t.Error(l, int(e))
	}
	if l, d, ok := Shortest(n, "p0", "p16"); len(l) != 17 || d != 16 || !ok {
		t.Error(l, d, ok)
	}
}

// P7.5: 1024 paths are permitted, one more is not.
func TestManyPaths(t *testing.T) {
	n := network("s t")
	for i := range 5 { // five layers of four points: 4^5 paths
		for j := range 4 {
			n.Points = append(n.Points, point("p"+strconv.Itoa(10*i+j)))
			if i == 0 {
				n.Links = append(n.Links, link("s", "p"+strconv.Itoa(j), 1, 1))
			}
			for k := range 4 {
				if i < 4 {
					n.Links = append(n.Links, link("p"+strconv.Itoa(10*i+j), "p"+strconv.Itoa(10*i+10+k), 1, 1))
				}
			}
			if i == 4 {
				n.Links = append(n.Links, link("p"+strconv.Itoa(40+j), "t", 1, 1))
			}
		}
	}
	if l, e := Paths(n, "s", "t"); len(l) != 1024 || e != api.OK || !slices.IsSortedFunc(l, slices.Compare[[]string]) {
		t.Error(len(l), int(e))
	}
	n.Links = append(n.Links, link("s", "t", 1, 1))
	if l, e := Paths(n, "s", "t"); len(l) != 0 || e != api.ErrLimit {
		t.Error(len(l), int(e))
	}
}

// P7.5, R1: a dense network, of which the goal is outside or at the end of a long road
func TestDensePaths(t *testing.T) {
	n := network("goal")
	for i := range 11 {
		n.Points = append(n.Points, point("p"+strconv.Itoa(i)))
		for j := range 11 {
			if i != j {
				n.Links = append(n.Links, link("p"+strconv.Itoa(i), "p"+strconv.Itoa(j), 1, 1))
			}
		}
	}
	start := time.Now()
	if l, e := Paths(n, "p0", "goal"); len(l) != 0 || e != api.OK {
		t.Error(len(l), int(e))
	}
	n.Links = append(n.Links, link("p0", "goal", 1, 1))
	if l, e := Paths(n, "p0", "goal"); len(l) != 1 || e != api.OK {
		t.Error(len(l), int(e))
	}
	if l, e := Paths(n, "p1", "goal"); len(l) != 0 || e != api.ErrLimit {
		t.Error(len(l), int(e))
	}
	if d := time.Since(start); d > 5*time.Second {
		t.Error("slow:", d)
	}
}

// P7.6
func TestBounds(t *testing.T) {
	for _, x := range []struct {
		path            string
		least, greatest int
		e               api.Errno
	}{
		{"a c d", 20, 120, api.OK}, {"a", 0, 0, api.OK}, {"a b d a b", 31, 61, api.OK},
		{"a d", 0, 0, api.ErrRoute}, {"a a", 0, 0, api.ErrRoute}, {"a x", 0, 0, api.ErrPoint}, {"a d x", 0, 0, api.ErrPoint}, {"", 0, 0, api.ErrPoint}, {"x", 0, 0, api.ErrPoint},
	} {
		if a, b, e := Bounds(example(), strings.Fields(x.path)); a != x.least || b != x.greatest || e != x.e {
			t.Error(x, a, b, int(e))
		}
	}
}

// P7.4, P7.5, P7.8 to P7.10: compared with a plain search
func TestRandomNetworks(t *testing.T) {
	r := rand.New(rand.NewSource(1))
	for range 400 {
		n := network("a b c d e f g")
		r.Shuffle(len(n.Points), func(i, j int) { n.Points[i], n.Points[j] = n.Points[j], n.Points[i] })
		for _, p := range n.Points {
			for _, q := range n.Points {
				if p.Name != q.Name && r.Intn(3) == 0 {
					least := 1 + r.Intn(4)
					n.Links = append(n.Links, link(p.Name, q.Name, least, least+r.Intn(5)))
				}
			}
		}
		from, to := string(rune('a'+r.Intn(7))), string(rune('a'+r.Intn(7)))
		var all [][]string
		var walk func(p []string)
		walk = func(p []string) {
			if p[len(p)-1] == to {
				all = append(all, slices.Clone(p))
				return
			}
			for _, k := range n.Links {
				if k.From == p[len(p)-1] && !slices.Contains(p, k.To) {
					walk(append(slices.Clone(p), k.To))
				}
			}
		}
		walk([]string{from})
		slices.SortFunc(all, slices.Compare[[]string])
		l, e := Paths(n, from, to)
		if e != api.OK || !slices.EqualFunc(l, all, slices.Equal[[]string]) {
			t.Fatal(n, from, to, l, all)
		}
		best, d, ok := Shortest(n, from, to)
		if ok != (len(all) > 0) || ok != slices.Contains(Reaches(n, from), to) {
			t.Fatal(n, from, to, ok)
		}
		for _, p := range all {
			x, _, e := Bounds(n, p)
			if e != api.OK || x < d || x == d && len(p) < len(best) || x == d && len(p) == len(best) && slices.Compare(p, best) < 0 {
				t.Fatal("better", n, p, x, best, d)
			}
		}
		if x, _, e := Bounds(n, best); ok && (x != d || e != api.OK) {
			t.Fatal(n, best, d, x)
		}
		reach := Reaches(n, from)
		for _, p := range reach {
			for _, q := range Next(n, p) {
				if !slices.Contains(reach, q) {
					t.Fatal(n, from, reach, p, q)
				}
			}
		}
	}
}
