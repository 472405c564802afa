package tests

import (
	"fmt"
	"math"
	"slices"
	"strconv"
	"strings"
	"testing"
	"unsafe"

	"loop.example/g00264/impl"
)

// move is a function that changes a list, with how much more of each amount it makes for one of n.
type move struct {
	name                string
	do                  func([]impl.Purse, string, int) ([]impl.Purse, bool)
	minted, free, spent int
}

func moves() []move {
	return []move{
		{"Mint", impl.Mint, 1, 1, 0},
		{"Gain", impl.Gain, 0, 1, 0},
		{"Part", impl.Part, 0, -1, 0},
		{"Spend", impl.Spend, 0, -1, 1},
		{"Unspend", impl.Unspend, 0, 1, -1},
	}
}

// manyPurses has n purses with keys k00, k01 and so on.
func manyPurses(n int) []impl.Purse {
	var list []impl.Purse
	for i := range n {
		key := "k" + strconv.Itoa(i/10) + strconv.Itoa(i%10)
		list = append(list, impl.Purse{Key: key, Minted: i, Free: 2 * i, Spent: 5})
	}
	return list
}

func rightLists() [][]impl.Purse {
	return [][]impl.Purse{
		nil,
		{},
		{{Key: "a"}},
		{{Key: "m", Minted: 7, Free: 5, Spent: 3}},
		{{Key: "m"}, {Key: "n", Free: 1}},
		{{Key: "b", Free: 4}, {Key: "d"}, {Key: "m", Minted: 3, Free: 2, Spent: 1}, {Key: "x", Spent: 9}},
		{{Key: "0"}, {Key: "10"}, {Key: "9"}, {Key: "a"}, {Key: "aa"}, {Key: "ab"}, {Key: "b"}},
		{{Key: "0123456789", Free: 1}, {Key: "m", Free: 1}, {Key: "zzzzzzzzzz", Spent: 1}},
		{{Key: "m", Minted: most}},
		{{Key: "m", Free: most}},
		{{Key: "m", Spent: most}},
		{{Key: "m", Minted: most, Free: most}},
		{{Key: "m", Minted: most, Free: 1, Spent: most - 1}},
		{{Key: "m", Minted: most - 1, Free: most - 3, Spent: 2}},
		{{Key: "l", Minted: most, Free: most}, {Key: "m", Minted: 1, Free: 1}, {Key: "n", Minted: most, Spent: most}},
		manyPurses(19),
		manyPurses(20),
	}
}

// wrongLists has lists that are no lists of purses, some of them by one fault behind what is right.
func wrongLists() [][]impl.Purse {
	lists := [][]impl.Purse{
		{{Key: "b"}, {Key: "a"}},
		{{Key: "m", Free: 2}, {Key: "m", Free: 3}},
		{{Key: "a"}, {Key: "m", Free: 5, Spent: 5}, {Key: "m", Free: 5, Spent: 5}},
		{{Key: "a"}, {Key: "c", Free: 1}, {Key: "b", Free: 1}},
		{{Key: "9"}, {Key: "10"}},
		{{Key: "aa"}, {Key: "a"}},
		manyPurses(21),
		manyPurses(99),
		make([]impl.Purse, 21),
		make([]impl.Purse, 5000),
	}
	for _, key := range []string{"", "A", "M", "m ", " m", "m-", "\xff", "m\x00", "\u00e9", "01234567890", "mmmmmmmmmmm", strings.Repeat("m", 100000)} {
		lists = append(lists, []impl.Purse{{Key: key, Free: 5, Spent: 5}})
	}
	for _, n := range []int{-1, most + 1, math.MaxInt, math.MinInt} {
		lists = append(lists,
			[]impl.Purse{{Key: "m", Minted: n, Free: 5, Spent: 5}},
			[]impl.Purse{{Key: "m", Free: n, Spent: 5}},
			[]impl.Purse{{Key: "m", Free: 5, Spent: n}},
			[]impl.Purse{{Key: "m", Free: n, Spent: n}},
			[]impl.Purse{{Key: "m", Free: n, Spent: -n}},
			[]impl.Purse{{Key: "a", Free: 1}, {Key: "m", Free: 5, Spent: 5}, {Key: "z", Spent: n}},
		)
	}
	return append(lists,
		[]impl.Purse{{Key: "m", Free: most, Spent: 1}},
		[]impl.Purse{{Key: "m", Free: 1, Spent: most}},
		[]impl.Purse{{Key: "m", Free: most, Spent: most}},
		[]impl.Purse{{Key: "m", Free: most/2 + 1, Spent: most / 2}},
		[]impl.Purse{{Key: "m", Free: math.MaxInt, Spent: math.MaxInt}},
		[]impl.Purse{{Key: "m", Free: math.MinInt, Spent: math.MinInt}},
	)
}

func someKeys() []string {
	return []string{"a", "b", "d", "m", "x", "z", "0", "9", "mm", "k00", "k10", "k19", "k20", "0123456789", "zzzzzzzzzz"}
}

func noKeys() []string {
	return []string{"", "M", "m ", " m", "m\n", "\xff", "\u00e9", "01234567890", "mmmmmmmmmmm", strings.Repeat("m", 100000)}
}

func isRight(list []impl.Purse) bool {
	last := ""
	for _, p := range list {
		if p.Key <= last || len(p.Key) > 10 || strings.Trim(p.Key, "abcdefghijklmnopqrstuvwxyz0123456789") != "" {
			return false
		}
		for _, n := range []int{p.Minted, p.Free, p.Spent} {
			if n < 0 || n > most {
				return false
			}
		}
		if p.Free+p.Spent > most {
			return false
		}
		last = p.Key
	}
	return len(list) <= 20
}

// wantMoved makes the list as the document tells it, with a purse put in where there is none.
func wantMoved(m move, list []impl.Purse, key string, n int) ([]impl.Purse, bool) {
	if !isRight(list) || !impl.KeyOk(key) || n < 1 || n > most {
		return list, false
	}
	out := slices.Clone(list)
	at := 0
	for at < len(out) && out[at].Key < key {
		at++
	}
	if at == len(out) || out[at].Key != key {
		out = slices.Insert(out, at, impl.Purse{Key: key})
	}
	out[at].Minted += m.minted * n
	out[at].Free += m.free * n
	out[at].Spent += m.spent * n
	if !isRight(out) {
		return list, false
	}
	return out, true
}

// shown keeps a list or a purse that is long from filling the page.
func shown(value any) string {
	text := fmt.Sprintf("%+q", value)
	return text[:min(len(text), 300)]
}

func checkMove(t *testing.T, m move, list []impl.Purse, key string, n int) {
	t.Helper()
	want, wantOk := wantMoved(m, list, key, n)
	got, ok := m.do(list, key, n)
	if ok != wantOk || !slices.Equal(got, want) {
		t.Fatalf("%s(%s, %.20q, %d) = %s, %v, want %s, %v", m.name, shown(list), key, n, shown(got), ok, shown(want), wantOk)
	}
}

func TestPursesThatAreRight(t *testing.T) {
	for _, list := range rightLists() {
		if !impl.PursesOk(list) {
			t.Errorf("%v are purses", list)
		}
	}
}

func TestPursesThatAreWrong(t *testing.T) {
	for _, list := range wrongLists() {
		if impl.PursesOk(list) {
			t.Errorf("%s are no purses", shown(list))
		}
	}
}

func TestPurseOfAndHolding(t *testing.T) {
	list := []impl.Purse{{Key: "b", Minted: 9, Free: 4, Spent: 2}, {Key: "d"}, {Key: "m", Free: most - 1, Spent: 1}, {Key: "xx", Spent: 7}}
	for _, p := range list {
		if got := impl.PurseOf(list, p.Key); got != p {
			t.Errorf("PurseOf %q = %v, want %v", p.Key, got, p)
		}
	}
	for _, c := range []struct {
		key  string
		want int
	}{{"b", 6}, {"d", 0}, {"m", most}, {"xx", 7}, {"x", 0}, {"c", 0}} {
		if got := impl.Holding(list, c.key); got != c.want {
			t.Errorf("Holding %q = %d, want %d", c.key, got, c.want)
		}
	}
	for _, key := range slices.Concat([]string{"a", "c", "dd", "x", "z", "bb"}, noKeys()) {
		for _, purses := range [][]impl.Purse{list, nil, {}} {
			if got := impl.PurseOf(purses, key); got != (impl.Purse{Key: key}) {
				t.Errorf("PurseOf %.20q = %s, want one with nothing", key, shown(got))
			}
			if got := impl.Holding(purses, key); got != 0 {
				t.Errorf("Holding %.20q = %d, want 0", key, got)
			}
		}
	}
}

func TestPurseOfWrongLists(t *testing.T) {
	for _, list := range wrongLists() {
		for _, key := range slices.Concat([]string{"a", "m", "z", "b"}, noKeys()) {
			want := impl.Purse{Key: key}
			if at := slices.IndexFunc(list, func(p impl.Purse) bool { return p.Key == key }); at >= 0 {
				want = list[at]
			}
			if got := impl.PurseOf(list, key); got != want {
				t.Fatalf("PurseOf %.20q in %s = %s, want %s", key, shown(list), shown(got), shown(want))
			}
			if got := impl.Holding(list, key); got != want.Free+want.Spent {
				t.Fatalf("Holding %.20q in %s = %d", key, shown(list), got)
			}
		}
	}
}

func TestMovesOneByOne(t *testing.T) {
	list := []impl.Purse{{Key: "b", Minted: 9, Free: 4, Spent: 2}, {Key: "d", Free: 5}}
	for _, c := range []struct {
		name string
		do   func([]impl.Purse, string, int) ([]impl.Purse, bool)
		key  string
		n    int
		want []impl.Purse
	}{
		{"mint", impl.Mint, "b", 3, []impl.Purse{{Key: "b", Minted: 12, Free: 7, Spent: 2}, {Key: "d", Free: 5}}},
		{"mint ahead", impl.Mint, "a", 1, []impl.Purse{{Key: "a", Minted: 1, Free: 1}, {Key: "b", Minted: 9, Free: 4, Spent: 2}, {Key: "d", Free: 5}}},
		{"gain", impl.Gain, "d", 3, []impl.Purse{{Key: "b", Minted: 9, Free: 4, Spent: 2}, {Key: "d", Free: 8}}},
		{"gain between", impl.Gain, "c", 3, []impl.Purse{{Key: "b", Minted: 9, Free: 4, Spent: 2}, {Key: "c", Free: 3}, {Key: "d", Free: 5}}},
		{"gain behind", impl.Gain, "d0", most, []impl.Purse{{Key: "b", Minted: 9, Free: 4, Spent: 2}, {Key: "d", Free: 5}, {Key: "d0", Free: most}}},
		{"part", impl.Part, "b", 3, []impl.Purse{{Key: "b", Minted: 9, Free: 1, Spent: 2}, {Key: "d", Free: 5}}},
		{"part with all", impl.Part, "d", 5, []impl.Purse{{Key: "b", Minted: 9, Free: 4, Spent: 2}, {Key: "d"}}},
		{"spend", impl.Spend, "b", 3, []impl.Purse{{Key: "b", Minted: 9, Free: 1, Spent: 5}, {Key: "d", Free: 5}}},
		{"spend all", impl.Spend, "d", 5, []impl.Purse{{Key: "b", Minted: 9, Free: 4, Spent: 2}, {Key: "d", Spent: 5}}},
		{"unspend", impl.Unspend, "b", 1, []impl.Purse{{Key: "b", Minted: 9, Free: 5, Spent: 1}, {Key: "d", Free: 5}}},
		{"unspend all", impl.Unspend, "b", 2, []impl.Purse{{Key: "b", Minted: 9, Free: 6}, {Key: "d", Free: 5}}},
	} {
		got, ok := c.do(list, c.key, c.n)
		if !ok || !slices.Equal(got, c.want) {
			t.Errorf("%s: %v, %v, want %v", c.name, got, ok, c.want)
		}
	}
}

func TestMovesOfRightLists(t *testing.T) {
	for _, m := range moves() {
		for _, list := range rightLists() {
			for _, key := range slices.Concat(someKeys(), noKeys()) {
				p := impl.PurseOf(list, key)
				numbers := []int{
					-1, 0, 1, 2, 3, most - 1, most, most + 1, math.MaxInt, math.MinInt, math.MaxInt - 1, math.MinInt + 1,
					p.Free - 1, p.Free, p.Free + 1, p.Spent - 1, p.Spent, p.Spent + 1,
					most - p.Minted, most - p.Minted + 1, most - p.Free - p.Spent, most - p.Free - p.Spent + 1,
				}
				for _, n := range numbers {
					checkMove(t, m, list, key, n)
				}
			}
		}
	}
}

func TestMovesOfWrongLists(t *testing.T) {
	for _, m := range moves() {
		for _, list := range wrongLists() {
			for _, key := range []string{"a", "m", "z", "", "M"} {
				for _, n := range []int{1, 5, 0, math.MaxInt, math.MinInt} {
					checkMove(t, m, list, key, n)
				}
			}
		}
	}
}

func TestMovesAtTheBound(t *testing.T) {
	purse := func(minted, free, spent int) []impl.Purse {
		return []impl.Purse{{Key: "m", Minted: minted, Free: free, Spent: spent}}
	}
	for _, c := range []struct {
		m    move
		list []impl.Purse
		n    int
		want []impl.Purse
		ok   bool
	}{
		{moves()[0], nil, most, purse(most, most, 0), true},
		{moves()[0], nil, most + 1, nil, false},
		{moves()[0], purse(most-2, 0, 0), 2, purse(most, 2, 0), true},
		{moves()[0], purse(most-2, 0, 0), 3, purse(most-2, 0, 0), false},
		{moves()[0], purse(0, most-5, 3), 2, purse(2, most-3, 3), true},
		{moves()[0], purse(0, most-5, 3), 3, purse(0, most-5, 3), false},
		{moves()[1], purse(most, 0, 1), most - 1, purse(most, most-1, 1), true},
		{moves()[1], purse(most, 0, 1), most, purse(most, 0, 1), false},
		{moves()[2], purse(4, most, 0), most, purse(4, 0, 0), true},
		{moves()[2], purse(4, most-1, 1), most, purse(4, most-1, 1), false},
		{moves()[3], purse(4, most, 0), most, purse(4, 0, most), true},
		{moves()[3], purse(4, most-1, 1), most, purse(4, most-1, 1), false},
		{moves()[4], purse(4, 0, most), most, purse(4, most, 0), true},
		{moves()[4], purse(4, 1, most-1), most, purse(4, 1, most-1), false},
	} {
		got, ok := c.m.do(c.list, "m", c.n)
		if ok != c.ok || !slices.Equal(got, c.want) {
			t.Errorf("%s(%v, m, %d) = %v, %v, want %v, %v", c.m.name, c.list, c.n, got, ok, c.want, c.ok)
		}
	}
}

func TestPurseThatComesToHaveNothing(t *testing.T) {
	full := manyPurses(19)
	full = append(full, impl.Purse{Key: "m", Free: 8})
	left, ok := impl.Part(full, "m", 8)
	if !ok || len(left) != 20 || left[19] != (impl.Purse{Key: "m"}) {
		t.Fatalf("%v, %v", left, ok)
	}
	for _, m := range moves()[:2] {
		// It keeps its place in the list, also where there is no other one free.
		if got, ok := m.do(left, "zz", 1); ok || !slices.Equal(got, left) {
			t.Errorf("%s of one more key: %v, %v", m.name, got, ok)
		}
		if got, ok := m.do(left, "m", 8); !ok || got[19].Free != 8 || len(got) != 20 {
			t.Errorf("%s of a key with nothing: %v, %v", m.name, got, ok)
		}
	}
	for _, m := range moves()[2:] {
		if got, ok := m.do(left, "m", 1); ok || !slices.Equal(got, left) {
			t.Errorf("%s of a key with nothing: %v, %v", m.name, got, ok)
		}
		if got, ok := m.do(left[:19], "m", 1); ok || !slices.Equal(got, left[:19]) {
			t.Errorf("%s of a key that is not there: %v, %v", m.name, got, ok)
		}
	}
}

func TestListsThatAreFull(t *testing.T) {
	for _, m := range moves()[:2] {
		for _, key := range []string{"a", "k005", "k18a", "zz"} {
			got, ok := m.do(manyPurses(19), key, 1)
			if !ok || len(got) != 20 || !impl.PursesOk(got) {
				t.Errorf("%s of the 20th key %s: %v, %v", m.name, key, got, ok)
			}
			if got, ok := m.do(manyPurses(20), key, 1); ok || !slices.Equal(got, manyPurses(20)) {
				t.Errorf("%s of the 21st key %s: %v, %v", m.name, key, got, ok)
			}
		}
		if got, ok := m.do(manyPurses(20), "k07", 1); !ok || got[7].Free != 15 {
			t.Errorf("%s of a key in a full list: %v, %v", m.name, got, ok)
		}
	}
}

func TestTakenAndGivenBack(t *testing.T) {
	pairs := []struct{ there, back move }{
		{moves()[1], moves()[2]},
		{moves()[3], moves()[4]},
		{moves()[4], moves()[3]},
		{moves()[2], moves()[1]},
	}
	for _, pair := range pairs {
		for _, list := range rightLists() {
			for _, p := range list {
				for _, n := range []int{1, 2, 5, most} {
					there, ok := pair.there.do(list, p.Key, n)
					if !ok {
						continue
					}
					back, ok := pair.back.do(there, p.Key, n)
					if !ok || !slices.Equal(back, list) {
						t.Fatalf("%s and %s of %d of %q: %v, %v, it was %v", pair.there.name, pair.back.name, n, p.Key, back, ok, list)
					}
				}
			}
		}
	}
}

// TestMovesInARow does many moves behind each other; what is chosen hangs on a number that is made from the last one.
func TestMovesInARow(t *testing.T) {
	keys := []string{"m", "a", "z", "k1", "k0", "b", "0", "zz", "mm", "a0", "c", "d", "e", "f", "g", "h", "i", "j", "k", "l", "n", "o", "p"}
	numbers := []int{1, 2, 3, 7, 40, 0, -1, 499999999, most, most + 1}
	for start := range uint32(40) {
		state := start*2654435761 + 12345
		pick := func(n int) int {
			state = state*1664525 + 1013904223
			return int(state>>8) % n
		}
		var list []impl.Purse
		held, done := map[string]int{}, 0
		for range 400 {
			m := moves()[pick(5)]
			key, n := keys[pick(len(keys))], numbers[pick(len(numbers))]
			checkMove(t, m, list, key, n)
			next, ok := m.do(list, key, n)
			if ok {
				held[key] += (m.free + m.spent) * n
				done++
			}
			list = next
			if !impl.PursesOk(list) {
				t.Fatalf("behind %s of %d of %q: %v", m.name, n, key, list)
			}
			if got := impl.Holding(list, key); got != held[key] {
				t.Fatalf("behind %s of %d of %q it holds %d, want %d", m.name, n, key, got, held[key])
			}
		}
		if done < 50 {
			t.Errorf("only %d moves were done", done)
		}
	}
}

func TestMovesWriteIntoNothing(t *testing.T) {
	for _, m := range moves() {
		for _, list := range slices.Concat(rightLists(), wrongLists()) {
			for _, key := range []string{"a", "m", "zzz", "M"} {
				for _, n := range []int{1, 3, 0, most} {
					room := append(slices.Clone(list), impl.Purse{Key: "room", Free: 1}, impl.Purse{Key: "roomier", Spent: 2})
					kept := slices.Clone(room)
					given := room[:len(list)]
					first, ok := m.do(given, key, n)
					want := slices.Clone(first)
					for i := range first {
						first[i] = impl.Purse{Key: "written", Minted: -1, Free: -1, Spent: -1}
					}
					_ = append(first, impl.Purse{Key: "behind"})
					if !slices.Equal(room, kept) {
						t.Fatalf("%s of %d of %q wrote into %s", m.name, n, key, shown(list))
					}
					if again, okAgain := m.do(given, key, n); okAgain != ok || !slices.Equal(again, want) {
						t.Fatalf("%s of %d of %q of %s: asked again, it is %s", m.name, n, key, shown(list), shown(again))
					}
				}
			}
		}
	}
}

// sharesText tells whether two texts lie in the same memory.
func sharesText(a, b string) bool {
	return a != "" && b != "" && unsafe.StringData(a) == unsafe.StringData(b)
}

func TestAnswersShareNoMemory(t *testing.T) {
	key := strings.Repeat("m", 3)
	other := strings.Repeat("q", 4)
	lists := [][]impl.Purse{
		{{Key: key, Free: 5, Spent: 5}, {Key: other, Free: 1}},
		{{Key: other, Free: 5, Spent: 5}},
		{{Key: other, Free: 5}, {Key: key, Free: 5}},
		{{Key: key, Free: -1}},
	}
	for _, list := range lists {
		for _, m := range moves() {
			for _, n := range []int{1, 6, 0, most + 1} {
				got, ok := m.do(list, key, n)
				if len(got) > 0 && &got[0] == &list[0] {
					t.Errorf("%s of %d (%v) answers the list itself", m.name, n, ok)
				}
				for _, p := range got {
					if sharesText(p.Key, key) || sharesText(p.Key, other) {
						t.Errorf("%s of %d (%v) answers a key %q that it was given", m.name, n, ok, p.Key)
					}
				}
			}
		}
		if p := impl.PurseOf(list, key); sharesText(p.Key, key) {
			t.Errorf("PurseOf answers a key that it was given: %v", p)
		}
	}
}

func TestQuestionsWriteIntoNothing(t *testing.T) {
	for _, list := range slices.Concat(rightLists(), wrongLists()) {
		room := append(slices.Clone(list), impl.Purse{Key: "room", Free: 1})
		kept := slices.Clone(room)
		given := room[:len(list)]
		impl.PursesOk(given)
		for _, key := range []string{"a", "m", "room", "M"} {
			impl.PurseOf(given, key)
			impl.Holding(given, key)
		}
		if !slices.Equal(room, kept) {
			t.Fatalf("something was written into %s", shown(list))
		}
	}
}
