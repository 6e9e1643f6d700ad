package fresh

import (
	"reflect"
	"testing"

	"tollway/api"
)

// fill sets everything in a value to something that is not zero; lists get one element.
func fill(v reflect.Value) {
	switch v.Kind() {
	case reflect.Struct:
		for i := range v.NumField() {
			fill(v.Field(i))
		}
	case reflect.Slice:
		v.Set(reflect.MakeSlice(v.Type(), 1, 3))
		fill(v.Index(0))
	case reflect.String:
		v.SetString("x")
	case reflect.Bool:
		v.SetBool(true)
	case reflect.Uint64:
		v.SetUint(7)
	default:
		v.SetInt(7)
	}
}

// lists collects the memory of all lists in a value.
func lists(v reflect.Value, found map[uintptr]bool) {
	switch v.Kind() {
	case reflect.Struct:
		for i := range v.NumField() {
			lists(v.Field(i), found)
		}
	case reflect.Slice:
		if v.Len() > 0 {
			found[v.Pointer()] = true
			lists(v.Index(0), found)
		}
	}
}

// apart reports whether copied is equal to a full value, and shares no memory with it.
func apart[T any](t *testing.T, copied func(T) T) {
	t.Helper()
	var x T
	fill(reflect.ValueOf(&x).Elem())
	y := copied(x)
	if !reflect.DeepEqual(x, y) {
		t.Errorf("%T is not equal: %v %v", x, x, y)
	}
	a, b := map[uintptr]bool{}, map[uintptr]bool{}
	lists(reflect.ValueOf(x), a)
	lists(reflect.ValueOf(y), b)
	for p := range a {
		if b[p] {
			t.Errorf("%T shares memory", x)
		}
	}
	if len(a) == 0 || len(a) != len(b) {
		t.Errorf("%T has lists: %d %d", x, len(a), len(b))
	}
	var none T
	if z := copied(none); !reflect.DeepEqual(z, none) {
		t.Errorf("%T: the copy of the zero value is %v", x, z)
	}
}

func TestCopies(t *testing.T) {
	apart(t, Passage)
	apart(t, Passages)
	apart(t, Charge)
	apart(t, Charges)
	apart(t, Entry)
	apart(t, Image)
	apart(t, Images)
	apart(t, File)
	apart(t, Files)
	apart(t, Partner)
	apart(t, Trip)
	apart(t, Zone)
	apart(t, Device)
	apart(t, Tariff)
	apart(t, Permit)
	apart(t, Account)
	apart(t, Config)
	apart(t, Result)
	apart(t, State)
	apart(t, Books)
}

func TestEmpty(t *testing.T) {
	if l := Charges([]api.Charge{}); len(l) != 0 {
		t.Error(l)
	}
}
