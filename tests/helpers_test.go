package tests

import (
	"fmt"
	"math"
	"reflect"
	"slices"
	"strings"
	"testing"

	"loop.example/g00955/impl"
)

const (
	minInt = math.MinInt64
	maxInt = math.MaxInt64
)

// edgeNumbers are the numbers around which limits and overflows lie.
func edgeNumbers() []int64 {
	return []int64{
		minInt, minInt + 1, -3037000500, -impl.MaxValue - 1, -impl.MaxValue, -1000001, -1000000,
		-65536, -3, -2, -1, 0, 1, 2, 3, 11, 12, 65535, 65536, 1000000, 1000001,
		impl.MaxValue, impl.MaxValue + 1, 3037000499, 3037000500, maxInt - 1, maxInt,
	}
}

// edgeTexts are texts of all sorts, most of which no function has written.
func edgeTexts() []string {
	return []string{
		"", " ", "  ", "-", "--", ",", ",,", "-,", ",-", "-,-", "0", "-0", "00", "01", "+1", "1,", ",1",
		"a", "a b", " a  b ", "abcdefghij", "abcdefghijk", "7a", "A", "1.5", "1e3", "0x1", "1_0",
		"\x00", "\xff\xfe", "é", "\u00a0", "a\tb\nc", "\u0661",
		"999999999999999999", "-999999999999999999", "1000000000000000000",
		"9223372036854775807", "-9223372036854775808", "99999999999999999999999999",
		"1000000000000,-1000000000000", "1000000000001", "-1000000000001",
		strings.Repeat(" ", 1000), strings.Repeat("0,", 63) + "0", strings.Repeat("0,", 64) + "0",
		strings.Repeat("9", 10000), strings.Repeat(",", 10000),
	}
}

// checkResult compares two results; a nil slice and an empty slice count as equal.
func checkResult[T any](t *testing.T, call string, got, want T) {
	t.Helper()
	g, w := reflect.ValueOf(&got).Elem(), reflect.ValueOf(&want).Elem()
	if g.Kind() == reflect.Slice && g.Len() == 0 && w.Len() == 0 {
		return
	}
	if !reflect.DeepEqual(got, want) {
		t.Errorf("%s: got %#v, want %#v", call, got, want)
	}
}

// checkKept calls use with a list of numbers that has unused capacity, and checks that neither part changes.
func checkKept(t *testing.T, call string, list []int64, use func([]int64)) {
	t.Helper()
	checkListKept(t, call, list, []int64{7777, -7777, 7777}, use)
}

// checkListKept calls use with a list whose unused capacity has a rest, and checks that neither part changes.
func checkListKept[T any](t *testing.T, call string, list, rest []T, use func([]T)) {
	t.Helper()
	whole := slices.Concat(list, rest)
	before := slices.Clone(whole)
	use(whole[:len(list)])
	if !reflect.DeepEqual(whole, before) {
		t.Errorf("%s: changed its argument from %v to %v", call, before, whole)
	}
}

// checkRepeats calls a function twice and checks that the results are equal.
func checkRepeats(t *testing.T, call string, use func() []any) {
	t.Helper()
	if first, second := use(), use(); !reflect.DeepEqual(first, second) {
		t.Errorf("%s: first %v, then %v", call, first, second)
	}
}

// checkNewList checks that a list shares memory neither with that of another call nor with the arguments, for which kept reports whether they are as before; it writes other over the list.
func checkNewList[T any](t *testing.T, call string, other T, use func() []T, kept func() bool) {
	t.Helper()
	first, second := use(), use()
	before := slices.Clone(second)
	for i := range first[:cap(first)] {
		first[:cap(first)][i] = other
	}
	checkResult(t, "another result of "+call, second, before)
	checkResult(t, "a later result of "+call, use(), before)
	if !kept() {
		t.Errorf("%s: its argument shares memory with its result", call)
	}
}

// checkMadeOf is checkNewList for a list that is made of others, which have unused capacity and are written over at last.
func checkMadeOf[T comparable](t *testing.T, call string, other T, sources [][]T, use func(sources [][]T) []T) {
	t.Helper()
	wholes, lists := [][]T{}, [][]T{}
	for _, source := range sources {
		whole := slices.Concat(source, make([]T, 300))
		wholes, lists = append(wholes, whole), append(lists, whole[:len(source)])
	}
	before := slices.Concat(wholes...)
	made := func() []T { return use(lists) }
	checkNewList(t, call, other, made, func() bool { return slices.Equal(slices.Concat(wholes...), before) })
	result := made()
	want := slices.Clone(result)
	for _, whole := range wholes {
		copy(whole, slices.Repeat([]T{other}, len(whole)))
	}
	checkResult(t, call+" with arguments that are written over", result, want)
}

// checkNewLines is checkNewList for lists of lists, which must not share memory with one another either.
func checkNewLines(t *testing.T, call string, use func() [][]int64, kept func() bool) {
	t.Helper()
	first, second := use(), use()
	before := cloneOfLines(second)
	for i, line := range first {
		// Writing to one list and behind it changes no list that comes later.
		for k := range line[:cap(line)] {
			line[:cap(line)][k] = 7777
		}
		if !slices.EqualFunc(first[i+1:], before[i+1:], slices.Equal) {
			t.Fatalf("%s: its list %d shares memory with a later one", call, i)
		}
	}
	checkResult(t, "another result of "+call, second, before)
	checkNewList(t, call, nil, use, kept)
}

// textForm has the functions of a kind of values that have texts.
type textForm[T any] struct {
	kind string
	text func(T) string
	read func(string) (T, bool)
}

// checkReadBack checks the text of a value, and that it leads back to the value.
func (f textForm[T]) checkReadBack(t *testing.T, x T, text string) {
	t.Helper()
	checkResult(t, fmt.Sprintf("%sText(%v)", f.kind, x), f.text(x), text)
	if got, ok := f.read(text); !reflect.DeepEqual(got, x) || !ok {
		t.Errorf("Read%s(%q): got %v, %t, want %v, true", f.kind, text, got, ok, x)
	}
}

// checkNoTexts checks that none of the values has a text.
func (f textForm[T]) checkNoTexts(t *testing.T, values []T) {
	t.Helper()
	for _, x := range values {
		checkResult(t, fmt.Sprintf("%sText(%q)", f.kind, fmt.Sprint(x)), f.text(x), "")
	}
}

// isNone reports whether a value is the zero one, as it has to be where a text leads to none.
func (f textForm[T]) isNone(x T) bool { return reflect.ValueOf(&x).Elem().IsZero() }

// checkNotRead checks that none of the texts leads to a value.
func (f textForm[T]) checkNotRead(t *testing.T, texts []string) {
	t.Helper()
	for _, s := range texts {
		if got, ok := f.read(s); !f.isNone(got) || ok {
			t.Errorf("Read%s(%.60q): got %v, %t, want the zero value and false", f.kind, s, got, ok)
		}
	}
}

// checkNoParts checks that no part of a text before one of its bytes leads to a value.
func (f textForm[T]) checkNoParts(t *testing.T, whole string) {
	t.Helper()
	for i := range len(whole) {
		f.checkNotRead(t, []string{whole[:i]})
	}
}

// checkChanged checks that the parts of a text before a byte, and all texts that differ from it by one byte, are texts of other values or of none.
func (f textForm[T]) checkChanged(t *testing.T, whole string) {
	t.Helper()
	for i := range len(whole) {
		changed := []string{whole[:i]}
		for b := range 256 {
			changed = append(changed, whole[:i]+string([]byte{byte(b)})+whole[i+1:])
		}
		for _, s := range changed {
			if got, ok := f.read(s); ok && f.text(got) != s || !ok && !f.isNone(got) {
				t.Errorf("Read%s(%q): got %v, %t", f.kind, s, got, ok)
			}
		}
	}
}

// sameForm has the function that reports whether two lists are equal, and one that returns values that differ from a value in one field each.
type sameForm[T comparable] struct {
	call   string
	same   func(a, b []T) bool
	others func(T) []T
}

func (f sameForm[T]) check(t *testing.T, a, b []T, want bool) {
	t.Helper()
	for _, pair := range [][2][]T{{a, b}, {b, a}} {
		if f.same(pair[0], pair[1]) != want {
			t.Errorf("%s(%.300q, %.300q): want %t", f.call, fmt.Sprint(pair[0]), fmt.Sprint(pair[1]), want)
		}
	}
}

// checkLists checks that each list is equal to its copy, and to no list that is longer, shorter, in another order, or has another value.
func (f sameForm[T]) checkLists(t *testing.T, lists [][]T) {
	t.Helper()
	f.check(t, nil, []T{}, true)
	for _, list := range lists {
		f.check(t, list, slices.Clone(list), true)
		f.check(t, list, append(slices.Clone(list), *new(T)), false)
		f.check(t, list, nil, len(list) == 0)
		for i, x := range list[:min(len(list), 50)] {
			f.check(t, list, list[:i], false)
			f.check(t, list, list[i+1:], false)
			first := list[0]
			swapped := slices.Clone(list)
			swapped[0], swapped[i] = x, first
			f.check(t, list, swapped, x == first)
			for _, other := range f.others(x) {
				changed := slices.Clone(list)
				changed[i] = other
				f.check(t, list, changed, false)
			}
		}
	}
}
