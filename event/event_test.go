package event

import (
	"bytes"
	"math"
	"math/rand"
	"slices"
	"strings"
	"testing"

	"tollway/api"
	"tollway/codec"
	"tollway/text"
)

func detect() api.Event {
	return api.Event{Kind: api.IDetect, Detect: api.Detection{Device: "cam", Seq: 7, Time: 100, Plate: "AB 1", Score: 900}}
}

func park() api.Event {
	return api.Event{Kind: api.IPark, Park: api.Parked{Kind: 1, Zone: "z", Plate: "AB1", Time: 5, Until: 9}}
}

func pay() api.Event { return api.Event{Kind: api.IPay, Name: "ann", Cents: -250} }

// P46.1
func TestRight(t *testing.T) {
	long := strings.Repeat("é", 16)
	most := api.MaxTime
	for i, x := range []struct {
		e      api.Event
		change func(e *api.Event)
		want   bool
	}{
		{detect(), func(e *api.Event) {}, true}, {detect(), func(e *api.Event) { e.Kind = 0 }, false}, {detect(), func(e *api.Event) { e.Kind = 6 }, false}, {api.Event{}, func(e *api.Event) {}, false}, {detect(), func(e *api.Event) { e.Detect = api.Detection{} }, true}, {detect(), func(e *api.Event) { e.Kind = api.IClose }, false},
		{detect(), func(e *api.Event) { e.Day = 1 }, false}, {detect(), func(e *api.Event) { e.Name = "x" }, false}, {detect(), func(e *api.Event) { e.Cents = 1 }, false}, {detect(), func(e *api.Event) { e.Park.Until = 1 }, false}, {detect(), func(e *api.Event) { e.Detect.Device, e.Detect.Tag, e.Detect.Plate = long, long, long }, true}, {detect(), func(e *api.Event) { e.Detect.Device = long + "x" }, false}, {detect(), func(e *api.Event) { e.Detect.Tag = long + "x" }, false}, {detect(), func(e *api.Event) { e.Detect.Plate = long + "x" }, false},
		{detect(), func(e *api.Event) {
			e.Detect.Seq, e.Detect.Time, e.Detect.Axles, e.Detect.Score = most, -most, most, -most
		}, true}, {detect(), func(e *api.Event) { e.Detect.Seq = most + 1 }, false}, {detect(), func(e *api.Event) { e.Detect.Time = -most - 1 }, false}, {detect(), func(e *api.Event) { e.Detect.Axles = math.MaxInt }, false}, {detect(), func(e *api.Event) { e.Detect.Score = math.MinInt }, false},
		{park(), func(e *api.Event) {}, true}, {park(), func(e *api.Event) { e.Park.Kind, e.Park.Time, e.Park.Until = -most, most, most }, true}, {park(), func(e *api.Event) { e.Park.Kind = most + 1 }, false}, {park(), func(e *api.Event) { e.Park.Time = most + 1 }, false}, {park(), func(e *api.Event) { e.Park.Until = most + 1 }, false}, {park(), func(e *api.Event) { e.Park.Zone = long + "x" }, false}, {park(), func(e *api.Event) { e.Park.Plate = long + "x" }, false}, {park(), func(e *api.Event) { e.Detect.Seq = 1 }, false},
		{pay(), func(e *api.Event) {}, true}, {pay(), func(e *api.Event) { e.Cents = api.MaxMoney }, true}, {pay(), func(e *api.Event) { e.Cents = -api.MaxMoney }, true}, {pay(), func(e *api.Event) { e.Cents = api.MaxMoney + 1 }, false}, {pay(), func(e *api.Event) { e.Name = long + "x" }, false}, {pay(), func(e *api.Event) { e.Day = 1 }, false}, {api.Event{Kind: api.IClose, Day: -most}, func(e *api.Event) {}, true}, {api.Event{Kind: api.ILate, Day: most + 1}, func(e *api.Event) {}, false}, {api.Event{Kind: api.ILate, Name: "x"}, func(e *api.Event) {}, false},
	} {
		x.change(&x.e)
		if Right(x.e) != x.want {
			t.Error(i, x.e)
		}
		if x.want {
			continue
		}
		if s, e := Print(x.e); s != "" || e != api.ErrArg {
			t.Error("Print", i, s, int(e))
		}
		if b, e := Put([]byte{1}, x.e); len(b) != 0 || e != api.ErrArg {
			t.Error("Put", i, b, int(e))
		}
		if s := Key(x.e); s != "" {
			t.Error("Key", i, s)
		}
	}
}

// P46.2, P46.4: the examples
func TestExamples(t *testing.T) {
	for _, x := range []struct {
		e    api.Event
		line string
		b    []byte
	}{
		{detect(), "detect cam 7 100 % AB%201 0 900", append([]byte{2, 6, 'c', 'a', 'm', 14, 200, 1, 0, 8, 'A', 'B', ' ', '1', 0}, 136, 14)}, {pay(), "pay ann -250", []byte{8, 6, 'a', 'n', 'n', 243, 3}}, {park(), "park 1 z AB1 5 9", []byte{4, 2, 2, 'z', 6, 'A', 'B', '1', 10, 18}}, {api.Event{Kind: api.IClose, Day: 3}, "close 3", []byte{6, 6}}, {api.Event{Kind: api.ILate, Day: -3}, "late -3", []byte{10, 5}},
	} {
		if s, e := Print(x.e); s != x.line || e != api.OK {
			t.Error(x, s, int(e))
		}
		if g, e := Parse(x.line); g != x.e || e != api.OK {
			t.Error(x, g, int(e))
		}
		if b, e := Put([]byte{9}, x.e); !bytes.Equal(b, append([]byte{9}, x.b...)) || e != api.OK {
			t.Error(x, b, int(e))
		}
		if g, at, e := Get(x.b, 0); g != x.e || at != len(x.b) || e != api.OK {
			t.Error(x, g, at, int(e))
		}
		if k := Key(x.e); k != text.Escape(x.line) {
			t.Error(x, k)
		}
	}
	room := make([]byte, 1, 50)
	Put(room, pay())
	if room[:2][1] != 0 {
		t.Error("the memory behind the bytes is changed")
	}
}

// P46.3
func TestParse(t *testing.T) {
	for s, want := range map[string]api.Errno{
		"": api.ErrForm, "x": api.ErrForm, "close": api.ErrForm, "close 1 2": api.ErrForm, "close 01": api.ErrForm, "close x": api.ErrForm, "close 99999999999": api.ErrArg, "close 99999999999999999999999": api.ErrArg, "close -99999999999999999999999": api.ErrArg, "close 68719476736": api.OK, "close 68719476737": api.ErrArg, "Close 1": api.ErrForm, " close 1": api.ErrForm, "close 1 ": api.ErrForm, "close  1": api.ErrForm,
		strings.Repeat("x", 513): api.ErrLong, "pay %41 5": api.ErrForm, "pay %% 5": api.ErrForm, "pay % 5": api.OK, "pay ann 5.00": api.ErrForm, "pay ann 1125899906842624": api.OK, "pay ann 1125899906842625": api.ErrArg, "pay " + strings.Repeat("x", 33) + " 5": api.ErrArg, "pay " + strings.Repeat("x", 33) + " y": api.ErrForm, "park 1 z AB1 5": api.ErrForm, "park 1 z AB1 5 9 0": api.ErrForm, "park -1 % %20 -5 -9": api.OK, "late -0": api.ErrForm, "late +1": api.ErrForm, "detect cam 7 100 % AB%201 0": api.ErrForm, "detect cam 7 100 % AB%2a1 0 1": api.ErrForm, "close\t1": api.ErrForm,
	} {
		g, e := Parse(s)
		if e != want || e != api.OK && g != (api.Event{}) {
			t.Error(s, g, int(e))
		}
		if e == api.OK {
			if back, _ := Print(g); back != s {
				t.Error(s, back)
			}
		}
	}
}

// P46.5
func TestGet(t *testing.T) {
	long := codec.PutInt(codec.PutText(codec.PutInt(nil, api.IPay), strings.Repeat("x", 33)), 5)
	for i, x := range []struct {
		b  []byte
		at int
		e  api.Errno
	}{
		{[]byte{12}, 0, api.ErrForm}, {[]byte{0}, 0, api.ErrForm}, {[]byte{1}, 0, api.ErrForm}, {[]byte{6}, 0, api.ErrShort}, {nil, 0, api.ErrShort}, {nil, 1, api.ErrRange}, {nil, -1, api.ErrRange}, {[]byte{6}, 2, api.ErrRange}, {[]byte{128, 0}, 0, api.ErrForm}, {[]byte{6, 128, 0}, 0, api.ErrForm}, {[]byte{8, 1}, 0, api.ErrForm}, {append([]byte{8}, codec.PutInt(nil, api.MaxText+1)...), 0, api.ErrLong}, {[]byte{8, 6, 'a'}, 0, api.ErrShort}, {long, 0, api.ErrArg}, {codec.PutInt([]byte{6}, api.MaxTime+1), 0, api.ErrArg}, {codec.PutInt([]byte{6}, math.MinInt), 0, api.ErrArg}, {codec.PutInt([]byte{8, 0}, api.MaxMoney+1), 0, api.ErrArg},
	} {
		if g, at, e := Get(x.b, x.at); g != (api.Event{}) || at != 0 || e != x.e {
			t.Error(i, g, at, int(e))
		}
	}
}

func random(r *rand.Rand) api.Event {
	s := func() string {
		b := make([]byte, r.Intn(6))
		for i := range b {
			b[i] = "aB% \n\xff"[r.Intn(6)]
		}
		return string(b)
	}
	n := func() int { return (r.Intn(2*api.MaxTime+1) - api.MaxTime) >> r.Intn(36) }
	e := api.Event{Kind: 1 + r.Intn(5)}
	switch e.Kind {
	case api.IDetect:
		e.Detect = api.Detection{Device: s(), Seq: n(), Time: n(), Tag: s(), Plate: s(), Axles: n(), Score: n()}
	case api.IPark:
		e.Park = api.Parked{Kind: n(), Zone: s(), Plate: s(), Time: n(), Until: n()}
	case api.IPay:
		e.Name, e.Cents = s(), n()
	default:
		e.Day = n()
	}
	return e
}

// P46.6 to P46.8
func TestInverse(t *testing.T) {
	r := rand.New(rand.NewSource(1))
	keys := map[string]api.Event{}
	for range 5000 {
		e := random(r)
		s, why := Print(e)
		g, also := Parse(s)
		if why != api.OK || also != api.OK || g != e || !Right(e) {
			t.Fatal(e, s, g)
		}
		before, after := make([]byte, r.Intn(4)), make([]byte, r.Intn(4))
		r.Read(before)
		r.Read(after)
		b, _ := Put(before, e)
		g, at, why := Get(append(slices.Clone(b), after...), len(before))
		if g != e || at != len(b) || why != api.OK {
			t.Fatal(e, b, g, at)
		}
		cut := len(before) + r.Intn(len(b)-len(before))
		if g, at, why := Get(b[:cut], len(before)); g != (api.Event{}) || at != 0 || why != api.ErrShort {
			t.Fatal(b, cut, int(why))
		}
		noise := make([]byte, r.Intn(12))
		for i := range noise {
			noise[i] = byte(r.Intn(14))
		}
		if g, at, why := Get(noise, 0); why == api.OK {
			if b, _ := Put(nil, g); !bytes.Equal(b, noise[:at]) {
				t.Fatal("another encoding", noise, b)
			}
		}
		k := Key(e)
		if old, ok := keys[k]; ok && old != e {
			t.Fatal("one key", old, e)
		}
		keys[k] = e
		if f, _ := text.Fields(k); len(f) != 1 {
			t.Fatal("not a field", k)
		}
	}
}
