package retain

import (
	"math"
	"math/rand"
	"reflect"
	"slices"
	"strconv"
	"strings"
	"testing"

	"tollway/api"
)

func keep(purpose, seconds, least int) api.Keeping {
	return api.Keeping{Purpose: purpose, Seconds: seconds, Least: least}
}

func rulesOf() []api.Keeping { return []api.Keeping{keep(1, 100, 10), keep(2, 1000, 50)} }

func image(id string, purpose, time int, hold ...string) api.Image {
	return api.Image{ID: id, Purpose: purpose, Time: time, Hold: hold, Digest: 7}
}

// P40.1
func TestCheck(t *testing.T) {
	for i, x := range []struct {
		l []api.Keeping
		e api.Errno
	}{
		{nil, api.OK}, {rulesOf(), api.OK}, {[]api.Keeping{keep(4, 0, api.MaxTime), keep(3, api.MaxTime, 0), keep(2, 0, 0), keep(1, 0, 0)}, api.OK}, {make([]api.Keeping, 5), api.ErrLimit}, {[]api.Keeping{keep(0, -1, 0)}, api.ErrArg}, {[]api.Keeping{keep(5, 0, 0)}, api.ErrArg}, {[]api.Keeping{keep(1, 0, 0), keep(1, -1, 0)}, api.ErrExists}, {[]api.Keeping{keep(1, -1, 0)}, api.ErrTime}, {[]api.Keeping{keep(1, api.MaxTime+1, 0)}, api.ErrTime}, {[]api.Keeping{keep(1, 0, -1), keep(0, 0, 0)}, api.ErrTime}, {[]api.Keeping{keep(1, 0, api.MaxTime+1)}, api.ErrTime},
	} {
		if e := Check(x.l); e != x.e {
			t.Error(i, int(e))
		}
		if x.e == api.OK {
			continue
		}
		if n, e := Until(x.l, api.Image{}, -9); n != 0 || e != x.e {
			t.Error("Until", i, n, int(e))
		}
		if a, b, e := Purge(x.l, make([]api.Image, 2), nil, -9); len(a)+len(b) != 0 || e != x.e {
			t.Error("Purge", i, int(e))
		}
		if n, ok := Next(x.l, []api.Image{image("a", 1, 500)}, []int{400}, 0); n != 0 || ok {
			t.Error("Next", i, n)
		}
	}
}

// P40.2
func TestUntil(t *testing.T) {
	last := api.MaxTime - 1
	for i, x := range []struct {
		im     api.Image
		closed int
		n      int
		e      api.Errno
	}{
		{image("a", 1, 500), 400, 600, api.OK}, {image("a", 1, 500), 595, 605, api.OK}, {image("a", 1, 500), 590, 600, api.OK}, {image("a", 2, last), last, last + 1000, api.OK}, {image("a", 1, 500), 0, 600, api.OK},
		{image("a", 1, 500), -1, 0, api.ErrState}, {image("a", 1, 500, "x"), 400, 0, api.ErrHold}, {image("a", 1, 500, ""), -1, 0, api.ErrHold}, {image("a", 3, 500, "x"), 400, 0, api.ErrNone}, {image("a", 9, 500), -1, 0, api.ErrNone}, {image("a", 3, -1), 400, 0, api.ErrTime}, {image("a", 3, api.MaxTime), 400, 0, api.ErrTime}, {image("a", 3, 5), -2, 0, api.ErrTime}, {image("a", 1, 5, "x"), api.MaxTime, 0, api.ErrTime}, {image("a", 1, math.MaxInt), math.MinInt, 0, api.ErrTime},
	} {
		if n, e := Until(rulesOf(), x.im, x.closed); n != x.n || e != x.e {
			t.Error(i, n, int(e))
		}
	}
}

// P40.3
func TestPurge(t *testing.T) {
	ims := []api.Image{image("a", 1, 500), image("b", 2, 0), image("c", 1, 0, "x"), image("d", 1, 0), image("a", 1, 499)}
	closed := []int{400, 0, 0, -1, 0}
	for at, want := range map[int]string{599: "abcd|a", 600: "bcd|aa", 598: "abcda|", 999: "bcd|aa", 1000: "cd|aba"} {
		kept, gone, e := Purge(rulesOf(), ims, closed, at)
		s := ""
		for _, im := range kept {
			s += im.ID
		}
		if s += "|" + strings.Join(gone, ""); s != want || e != api.OK {
			t.Error(at, s, int(e))
		}
	}
	kept, _, _ := Purge(rulesOf(), ims, closed, 0)
	if !reflect.DeepEqual(kept, ims) {
		t.Error(kept)
	}
	kept[2].Hold[0] = "y"
	if ims[2].Hold[0] != "x" {
		t.Error("shared memory")
	}
	for i, x := range []struct {
		ims    []api.Image
		closed []int
		t      int
		e      api.Errno
	}{
		{ims, closed[:4], -1, api.ErrArg}, {nil, closed, 5, api.ErrArg}, {[]api.Image{image("a", 3, 5)}, []int{0}, -1, api.ErrTime}, {ims, closed, api.MaxTime, api.ErrTime}, {[]api.Image{ims[0], image("a", 3, 5), image("a", 1, -1)}, []int{0, 0, 0}, 5, api.ErrNone}, {[]api.Image{ims[0], image("a", 1, -1), image("a", 3, 5)}, []int{0, 0, 0}, 5, api.ErrTime}, {ims[:1], []int{-2}, 5, api.ErrTime},
	} {
		if a, b, e := Purge(rulesOf(), x.ims, x.closed, x.t); len(a)+len(b) != 0 || e != x.e {
			t.Error(i, a, b, int(e))
		}
	}
	if a, b, e := Purge(rulesOf(), nil, nil, 5); len(a)+len(b) != 0 || e != api.OK {
		t.Error(int(e))
	}
}

// P40.4
func TestHold(t *testing.T) {
	full := image("full", 9, -5)
	for i := range 16 {
		full.Hold = append(full.Hold, "r"+strconv.Itoa(i))
	}
	ims := []api.Image{image("a", 1, 500, "x", "y", "x"), full, image("a", 2, 7)}
	r, e := Hold(ims, "a", "z")
	if e != api.OK || !slices.Equal(r[0].Hold, []string{"x", "y", "x", "z"}) || len(ims[0].Hold) != 3 || !reflect.DeepEqual(r[1:], ims[1:]) {
		t.Error(r, int(e))
	}
	for i, x := range []struct {
		id, reason string
		e          api.Errno
	}{{"q", "X", api.ErrName}, {"a", "", api.ErrName}, {"a", "x y", api.ErrName}, {"q", "x", api.ErrNone}, {"a", "x", api.ErrExists}, {"full", "r3", api.ErrExists}, {"full", "z", api.ErrLimit}} {
		if r, e := Hold(ims, x.id, x.reason); !reflect.DeepEqual(r, ims) || e != x.e {
			t.Error(i, r, int(e))
		}
	}
	r, e = Release(ims, "a", "x")
	if e != api.OK || !slices.Equal(r[0].Hold, []string{"y", "x"}) || !slices.Equal(ims[0].Hold, []string{"x", "y", "x"}) || !reflect.DeepEqual(r[1:], ims[1:]) {
		t.Error(r, int(e))
	}
	for _, x := range [][2]string{{"q", "x"}, {"a", "z"}, {"a", ""}, {"", ""}} {
		if r, e := Release(ims, x[0], x[1]); !reflect.DeepEqual(r, ims) || e != api.ErrNone {
			t.Error(x, r, int(e))
		}
	}
}

// P40.5
func TestNext(t *testing.T) {
	ims := []api.Image{image("a", 1, 500), image("b", 2, 0), image("c", 1, 0, "x"), image("d", 1, 0), image("e", 3, 0), image("f", 1, -7)}
	closed := []int{400, 0, 0, -1, 0, 0}
	for at, want := range map[int]int{0: 600, 599: 600, 600: 1000, 999: 1000, 1000: 0, -5: 600, math.MinInt: 600, math.MaxInt: 0} {
		if n, ok := Next(rulesOf(), ims, closed, at); n != want || ok != (want != 0) {
			t.Error(at, n, ok)
		}
	}
	if n, ok := Next(rulesOf(), ims, closed[:5], 0); n != 0 || ok {
		t.Error(n, ok)
	}
}

// P40.6 to P40.8
func TestConsequences(t *testing.T) {
	r := rand.New(rand.NewSource(1))
	for range 1000 {
		ims := make([]api.Image, r.Intn(8))
		closed := make([]int, len(ims))
		for i := range ims {
			ims[i] = image("i"+strconv.Itoa(i), 1+r.Intn(2), r.Intn(1000))
			if r.Intn(4) == 0 {
				ims[i].Hold = []string{"x"}
			}
			closed[i] = r.Intn(1000) - r.Intn(2)
			if r.Intn(4) == 0 {
				closed[i] = -1
			}
		}
		at := r.Intn(2500)
		kept, gone, e := Purge(rulesOf(), ims, closed, at)
		later, more, _ := Purge(rulesOf(), ims, closed, at+r.Intn(500))
		if e != api.OK || len(kept)+len(gone) != len(ims) || len(later) > len(kept) {
			t.Fatal(ims, kept, gone)
		}
		for _, id := range gone {
			if !slices.Contains(more, id) {
				t.Fatal("kept later", id)
			}
		}
		for i, im := range ims {
			has := slices.ContainsFunc(kept, func(k api.Image) bool { return reflect.DeepEqual(k, im) })
			if has == slices.Contains(gone, im.ID) || !has && (len(im.Hold) > 0 || closed[i] == -1) {
				t.Fatal(im, kept, gone)
			}
			held, e := Hold(ims, im.ID, "new")
			if e != api.OK {
				t.Fatal(int(e))
			}
			if _, gone, _ := Purge(rulesOf(), held, closed, at); slices.Contains(gone, im.ID) {
				t.Fatal("purged while held")
			}
			if back, e := Release(held, im.ID, "new"); e != api.OK || !slices.EqualFunc(back, ims, func(a, b api.Image) bool {
				return a.ID == b.ID && slices.Equal(a.Hold, b.Hold)
			}) {
				t.Fatal(back, ims)
			}
		}
		next, ok := Next(rulesOf(), ims, closed, at)
		for k := at; k < min(at+300, api.MaxTime); k += 7 {
			_, same, _ := Purge(rulesOf(), ims, closed, k)
			if (!ok || k < next) != slices.Equal(same, gone) {
				t.Fatal(k, next, ok, same, gone)
			}
		}
		if ok {
			if _, same, _ := Purge(rulesOf(), ims, closed, next); len(same) == len(gone) {
				t.Fatal("nothing happens", next)
			}
		}
	}
}
