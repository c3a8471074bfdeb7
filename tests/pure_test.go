package tests

import (
	"reflect"
	"testing"
)

// filler stands in the unused capacity of arguments; no test uses it as an element.
const filler = 7654321

// room is how much unused capacity each slice of an argument gets.
const room = 3

// pure calls f with copies of the arguments whose slices have unused capacity, and returns the results.
// It fails if the call changes an argument or that capacity, if the results share memory with an argument
// or with each other, or if they differ when every empty slice of the arguments is nil.
func pure(t *testing.T, f any, args ...any) []any {
	t.Helper()
	given, bare := inputs(args, true), inputs(args, false)
	before := wholes(given)
	results := reflect.ValueOf(f).Call(given)
	if !reflect.DeepEqual(before, wholes(given)) {
		t.Fatalf("the call changed its arguments %v", args)
	}
	noSharing(t, args, given, results)
	plain := outputs(results)
	if again := outputs(reflect.ValueOf(f).Call(bare)); !reflect.DeepEqual(plain, again) {
		t.Fatalf("the arguments %v gave %v, but %v with nil for empty slices", args, plain, again)
	}
	return plain
}

// pureOverAll calls pure with every choice of one argument from each pool.
func pureOverAll(t *testing.T, f any, pools ...[]any) {
	t.Helper()
	choose(t, f, nil, pools)
}

func choose(t *testing.T, f any, args []any, pools [][]any) {
	t.Helper()
	if len(pools) == 0 {
		pure(t, f, args...)
		return
	}
	for _, arg := range pools[0] {
		choose(t, f, append(args[:len(args):len(args)], arg), pools[1:])
	}
}

// pool makes a list of arguments of any type.
func pool[T any](l ...T) []any {
	p := make([]any, len(l))
	for i, x := range l {
		p[i] = x
	}
	return p
}

func inputs(args []any, roomy bool) []reflect.Value {
	l := make([]reflect.Value, len(args))
	for i, arg := range args {
		l[i] = deepCopy(reflect.ValueOf(arg), roomy)
	}
	return l
}

func outputs(results []reflect.Value) []any {
	l := make([]any, len(results))
	for i, r := range results {
		l[i] = deepCopy(r, false).Interface()
	}
	return l
}

// deepCopy copies v. Its slices have unused capacity if roomy; otherwise they have none and are nil if empty.
func deepCopy(v reflect.Value, roomy bool) reflect.Value {
	c := reflect.New(v.Type()).Elem()
	switch v.Kind() {
	case reflect.Struct:
		for i := range v.NumField() {
			c.Field(i).Set(deepCopy(v.Field(i), roomy))
		}
	case reflect.Slice:
		extra := 0
		if roomy {
			extra = room
		} else if v.Len() == 0 {
			return c
		}
		c.Set(reflect.MakeSlice(v.Type(), v.Len()+extra, v.Len()+extra))
		for i := range v.Len() {
			c.Index(i).Set(deepCopy(v.Index(i), roomy))
		}
		for i := range extra {
			fill(c.Index(v.Len() + i))
		}
		c.Set(c.Slice(0, v.Len()))
	default:
		c.Set(v)
	}
	return c
}

func fill(v reflect.Value) {
	switch v.Kind() {
	case reflect.Int:
		v.SetInt(filler)
	case reflect.Bool:
		v.SetBool(true)
	case reflect.Struct:
		for i := range v.NumField() {
			fill(v.Field(i))
		}
	}
}

// wholes copies the values with the unused capacity of their slices.
func wholes(values []reflect.Value) []any {
	l := make([]any, len(values))
	for i, v := range values {
		l[i] = whole(v).Interface()
	}
	return l
}

func whole(v reflect.Value) reflect.Value {
	c := reflect.New(v.Type()).Elem()
	switch v.Kind() {
	case reflect.Struct:
		for i := range v.NumField() {
			c.Field(i).Set(whole(v.Field(i)))
		}
	case reflect.Slice:
		all := v.Slice(0, v.Cap())
		c.Set(reflect.MakeSlice(v.Type(), all.Len(), all.Len()))
		for i := range all.Len() {
			c.Index(i).Set(whole(all.Index(i)))
		}
	default:
		c.Set(v)
	}
	return c
}

// block is the memory from the address From up to To.
type block struct {
	From, To uintptr
}

func noSharing(t *testing.T, args []any, given []reflect.Value, results []reflect.Value) {
	t.Helper()
	var old, taken []block
	for _, v := range given {
		old = blocks(v, old)
	}
	for _, v := range results {
		taken = blocks(v, taken)
	}
	for i, b := range taken {
		for _, o := range append(old[:len(old):len(old)], taken[:i]...) {
			if b.From < o.To && o.From < b.To {
				t.Fatalf("a result of the arguments %v shares memory with an argument or with another result", args)
			}
		}
	}
}

func blocks(v reflect.Value, l []block) []block {
	switch v.Kind() {
	case reflect.Struct:
		for i := range v.NumField() {
			l = blocks(v.Field(i), l)
		}
	case reflect.Slice:
		if v.Cap() > 0 {
			l = append(l, block{v.Pointer(), v.Pointer() + uintptr(v.Cap())*v.Type().Elem().Size()})
		}
		for i := range v.Len() {
			l = blocks(v.Index(i), l)
		}
	}
	return l
}
