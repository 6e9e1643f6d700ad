package evidence

import (
	"math"
	"math/rand"
	"reflect"
	"slices"
	"strconv"
	"strings"
	"testing"

	"tollway/api"
	"tollway/digest"
)

func image(id string, hold ...string) api.Image {
	return api.Image{ID: id, Time: 5, Purpose: 2, Hold: hold, Digest: 258}
}

// P41.1
func TestDigest(t *testing.T) {
	if h := Digest(image("a", "x")); h != digest.Hash([]byte{2, 97, 10, 4, 2, 2, 120, 0, 0, 0, 0, 0, 0, 1, 2}) {
		t.Error(h)
	}
	odd := api.Image{ID: strings.Repeat("é ", 99999), Time: math.MinInt, Purpose: math.MaxInt, Hold: make([]string, 5000), Digest: math.MaxUint64}
	if Digest(odd) != Digest(odd) || Digest(odd) == Digest(api.Image{}) {
		t.Error("any image")
	}
	if h := Digest(api.Image{Digest: 1 << 56}); h != digest.Hash([]byte{0, 0, 0, 0, 1, 0, 0, 0, 0, 0, 0, 0}) {
		t.Error(h)
	}
}

// P41.2, P41.4: the errors of an image
func TestBuild(t *testing.T) {
	var many []api.Image
	for i := range api.MaxList + 1 {
		many = append(many, image("i"+strconv.Itoa(i)))
	}
	with := func(change func(im *api.Image)) []api.Image {
		l := []api.Image{image("a"), image("b", "x")}
		change(&l[1])
		return l
	}
	for i, x := range []struct {
		id  string
		ims []api.Image
		e   api.Errno
	}{
		{"v1", nil, api.OK}, {"v1", many[:api.MaxList], api.OK}, {"v1", many, api.ErrLimit}, {"", many, api.ErrForm}, {"a b", nil, api.ErrForm}, {strings.Repeat("x", 512), nil, api.OK}, {strings.Repeat("x", 513), nil, api.ErrForm}, {"é", nil, api.ErrForm},
		{"v1", with(func(im *api.Image) { im.ID, im.Time = "", -1 }), api.ErrForm}, {"v1", with(func(im *api.Image) { im.ID = "a b" }), api.ErrForm}, {"v1", with(func(im *api.Image) { im.Time, im.Purpose = -1, 0 }), api.ErrTime}, {"v1", with(func(im *api.Image) { im.Time = api.MaxTime }), api.ErrTime}, {"v1", with(func(im *api.Image) { im.Time = api.MaxTime - 1 }), api.OK}, {"v1", with(func(im *api.Image) { im.Purpose, im.Hold = 0, make([]string, 1025) }), api.ErrArg}, {"v1", with(func(im *api.Image) { im.Purpose = 5 }), api.ErrArg}, {"v1", with(func(im *api.Image) { im.Purpose = 4 }), api.OK}, {"v1", with(func(im *api.Image) { im.Purpose = 1 }), api.OK}, {"v1", with(func(im *api.Image) { im.Time = 0 }), api.OK}, {"v1", with(func(im *api.Image) { im.ID, im.Hold = "a", make([]string, 1025) }), api.ErrLimit}, {"v1", with(func(im *api.Image) { im.Hold = make([]string, 1024) }), api.OK}, {"v1", with(func(im *api.Image) { im.ID = "a" }), api.ErrExists},
	} {
		p, e := Build(x.id, x.ims)
		if e != x.e || e != api.OK && !reflect.DeepEqual(p, api.Package{}) {
			t.Error(i, int(e))
		}
		if e == api.OK && (p.Case != x.id || len(p.Images) != len(x.ims) || First(p, api.Package{Images: x.ims}) >= 0 || !Verify(p) || len(p.Chain) != len(x.ims)) {
			t.Error(i, p)
		}
		if len(x.ims) == 2 { // Add has the same errors of the second image
			first, _ := Build("v1", x.ims[:1])
			q, e := Add(first, x.ims[1])
			if e != x.e || e == api.OK && !reflect.DeepEqual(q, p) || e != api.OK && !reflect.DeepEqual(q, first) {
				t.Error("Add", i, int(e))
			}
		}
	}
	p, _ := Build("v1", []api.Image{image("a", "x")})
	if want := digest.Join(digest.Hash([]byte("v1")), Digest(image("a", "x"))); !slices.Equal(p.Chain, []uint64{want}) {
		t.Error(p.Chain)
	}
	ims := []api.Image{image("a", "x")}
	p, _ = Build("v1", ims)
	p.Images[0].Hold[0] = "y"
	if ims[0].Hold[0] != "x" {
		t.Error("shared memory")
	}
}

// P41.3, P41.4
func TestVerify(t *testing.T) {
	p, _ := Build("v1", []api.Image{image("a", "x"), image("b"), image("c")})
	for i, change := range []func(p *api.Package){
		func(p *api.Package) { p.Case = "v2" }, func(p *api.Package) { p.Images[1].Digest++ }, func(p *api.Package) { p.Images[1].Time++ }, func(p *api.Package) { p.Images[0].Hold[0] = "y" }, func(p *api.Package) { p.Images[0].Hold = nil }, func(p *api.Package) { p.Images[2].ID = "d" }, func(p *api.Package) { p.Images[2].Purpose = 1 }, func(p *api.Package) { p.Chain[0]++ }, func(p *api.Package) { p.Chain[2]++ }, func(p *api.Package) { p.Chain = p.Chain[:2] }, func(p *api.Package) { p.Chain = append(p.Chain, 0) }, func(p *api.Package) { p.Images = p.Images[:2] }, func(p *api.Package) { p.Images = append(p.Images, image("d")) }, func(p *api.Package) { p.Images[0], p.Images[1] = p.Images[1], p.Images[0] },
	} {
		q, _ := Build("v1", p.Images)
		change(&q)
		r, e := Add(q, api.Image{})
		if Verify(q) || e != api.ErrSum || !reflect.DeepEqual(r, q) {
			t.Error(i, int(e))
		}
	}
	if !Verify(p) || !Verify(api.Package{}) || Verify(api.Package{Chain: []uint64{0}}) {
		t.Error("Verify")
	}
	full := make([]api.Image, api.MaxList)
	for i := range full {
		full[i] = image("i" + strconv.Itoa(i))
	}
	q, _ := Build("v1", full)
	if _, e := Add(q, api.Image{}); e != api.ErrLimit {
		t.Error(int(e))
	}
	room := api.Package{Case: p.Case, Images: append(make([]api.Image, 0, 9), p.Images...), Chain: append(make([]uint64, 0, 9), p.Chain...)}
	r, e := Add(room, image("d"))
	if e != api.OK || len(r.Chain) != 4 || room.Chain[:4][3] != 0 || room.Images[:4][3].ID != "" {
		t.Error("the memory behind the package is changed")
	}
	r.Images[0].Hold[0], r.Chain[0] = "y", 0
	if !Verify(room) {
		t.Error("shared memory")
	}
}

// P41.5
func TestFirst(t *testing.T) {
	a := api.Package{Images: []api.Image{image("a", "x"), image("b"), image("c")}}
	for i, x := range []struct {
		b    api.Package
		want int
	}{
		{a, -1}, {api.Package{Case: "z", Chain: []uint64{5}, Images: a.Images}, -1}, {api.Package{}, 0}, {api.Package{Images: a.Images[:2]}, 2}, {api.Package{Images: append(a.Images[:3:3], image("d"))}, 3}, {api.Package{Images: []api.Image{image("a", "y")}}, 0}, {api.Package{Images: []api.Image{image("a", "x"), {ID: "b", Time: 6, Purpose: 2, Digest: 258}}}, 1}, {api.Package{Images: []api.Image{image("a", "x"), {ID: "b", Time: 5, Purpose: 1, Digest: 258}}}, 1}, {api.Package{Images: []api.Image{image("a", "x"), {ID: "b", Time: 5, Purpose: 2, Digest: 257}}}, 1}, {api.Package{Images: []api.Image{image("a", "x"), {ID: "b", Time: 5, Purpose: 2, Hold: []string{}, Digest: 258}, image("c")}}, -1},
	} {
		if n, m := First(a, x.b), First(x.b, a); n != x.want || m != x.want {
			t.Error(i, n, m)
		}
	}
	if First(api.Package{}, api.Package{}) != -1 {
		t.Error("empty packages")
	}
}

// P41.6, P41.8
func TestSteps(t *testing.T) {
	r := rand.New(rand.NewSource(1))
	for range 300 {
		var ims, others []api.Image
		for i := range r.Intn(6) {
			im := image("i"+strconv.Itoa(i), []string{"x", "y"}[:r.Intn(3)]...)
			ims = append(ims, im)
			if r.Intn(4) == 0 {
				im.Digest++
			}
			others = append(others, im)
		}
		p, _ := Build("v1", nil)
		for _, im := range ims {
			p, _ = Add(p, im)
		}
		q, _ := Build("v1", ims)
		if First(p, q) != -1 || !slices.Equal(p.Chain, q.Chain) || p.Case != q.Case {
			t.Fatal(p, q)
		}
		o, _ := Build("v1", others)
		if i := First(p, o); i >= 0 && (!slices.Equal(p.Chain[:i], o.Chain[:i]) || p.Chain[i] == o.Chain[i]) {
			t.Fatal(i, p, o)
		}
	}
}
