package tests

import (
	"fmt"
	"maps"
	"math"
	"slices"
	"strconv"
	"strings"
	"testing"

	"loop.example/g00264/impl"
)

// plainSeen tells whether node to has taken the transfer of that number from node from.
func plainSeen(w impl.World, from, to, id int) bool {
	if !isIn(to, 0, len(w.Keepers)-1) {
		return false
	}
	for _, seen := range w.Keepers[to].Node.Seen {
		if seen.From == from {
			return id < seen.Low || slices.Contains(seen.Ids, id)
		}
	}
	return false
}

func plainOnWay(w impl.World, key string) int {
	sum := 0
	for _, k := range w.Keepers {
		for _, s := range k.Node.Out {
			if s.Key == key && !plainSeen(w, k.Node.Id, s.To, s.Id) {
				sum += s.N
			}
		}
	}
	return sum
}

// plainPurses has the purse of a key of each node, the first where there are two.
func plainPurses(w impl.World, key string) []impl.Purse {
	var list []impl.Purse
	for _, k := range w.Keepers {
		at := slices.IndexFunc(k.Node.Purses, func(p impl.Purse) bool { return p.Key == key })
		if at < 0 {
			list = append(list, impl.Purse{})
			continue
		}
		list = append(list, k.Node.Purses[at])
	}
	return list
}

// plainTotal is all of a key that nodes hold, and that was sent and not seen yet.
func plainTotal(w impl.World, key string) int {
	sum := plainOnWay(w, key)
	for _, p := range plainPurses(w, key) {
		sum += p.Free + p.Spent
	}
	return sum
}

func plainMinted(w impl.World, key string) int {
	if len(w.Keepers) == 0 {
		return 0
	}
	return plainPurses(w, key)[0].Minted
}

func plainKeys(w impl.World) []string {
	var list []string
	for _, k := range w.Keepers {
		for _, p := range k.Node.Purses {
			list = append(list, p.Key)
		}
	}
	slices.Sort(list)
	return slices.Compact(list)
}

func plainGranted(w impl.World, key string) int {
	first := map[impl.Given]int{}
	for _, told := range slices.Backward(w.Told) {
		if op := told.Answer.Op; op.Kind == impl.OpAdmit && told.Answer.Code == impl.Done && op.Key == key {
			first[impl.Given{At: told.At, No: op.No}] = op.N
		}
	}
	sum := 0
	for given, n := range first {
		if !slices.Contains(w.Back, given) {
			sum += n
		}
	}
	return sum
}

func plainAudit(w impl.World) string {
	text := ""
	for _, key := range plainKeys(w) {
		spent, free := 0, 0
		for _, p := range plainPurses(w, key) {
			spent, free = spent+p.Spent, free+p.Free
		}
		text += fmt.Sprintf("%s minted %d spent %d free %d way %d\n", key, plainMinted(w, key), spent, free, plainOnWay(w, key))
	}
	return text
}

func plainSettled(w impl.World) bool {
	return !slices.ContainsFunc(plainKeys(w), func(key string) bool { return plainOnWay(w, key) != 0 })
}

// askedKeys has all keys that a world tells of, and some that it does not.
func askedKeys(w impl.World) []string {
	list := append(plainKeys(w), "nothing", "", "A", "a ")
	for _, k := range w.Keepers {
		for _, s := range k.Node.Out {
			list = append(list, s.Key)
		}
	}
	for _, told := range w.Told {
		list = append(list, told.Answer.Op.Key)
	}
	slices.Sort(list)
	return slices.Compact(list)
}

// checkAudit holds all that the audit tells of a world against the plain readings.
func checkAudit(t *testing.T, what string, w impl.World) {
	t.Helper()
	want := func(call string, got, want any) {
		t.Helper()
		if got != want {
			t.Fatalf("%s: %s is %#v, want %#v, of\n%s", what, call, got, want, shownWorld(w))
		}
	}
	for _, key := range askedKeys(w) {
		of := " of " + strconv.Quote(key)
		want("OnWay"+of, impl.OnWay(w, key), plainOnWay(w, key))
		want("Total"+of, impl.Total(w, key), plainTotal(w, key))
		want("MintedOf"+of, impl.MintedOf(w, key), plainMinted(w, key))
		want("Balanced"+of, impl.Balanced(w, key), plainTotal(w, key) == plainMinted(w, key))
		want("Granted"+of, impl.Granted(w, key), plainGranted(w, key))
	}
	want("KeysOf", fmt.Sprintf("%q", impl.KeysOf(w)), fmt.Sprintf("%q", plainKeys(w)))
	want("AuditText", impl.AuditText(w), plainAudit(w))
	want("Settled", impl.Settled(w), plainSettled(w))
}

// wantAudit holds a right world against a text of its audit, and all that is told of its keys against each other.
func wantAudit(t *testing.T, what string, w impl.World, text string) {
	t.Helper()
	checkAudit(t, what, w)
	if got := impl.AuditText(w); got != text {
		t.Fatalf("%s: AuditText is %q, want %q", what, got, text)
	}
	settled := true
	for line := range strings.Lines(text) {
		var key string
		var minted, spent, free, way int
		fmt.Sscanf(line, "%s minted %d spent %d free %d way %d\n", &key, &minted, &spent, &free, &way)
		settled = settled && way == 0
		if impl.MintedOf(w, key) != minted || impl.OnWay(w, key) != way || impl.Total(w, key) != spent+free+way || !impl.Balanced(w, key) {
			t.Fatalf("%s: of %s there are %d minted, %d on the way and %d in all", what, key, impl.MintedOf(w, key), impl.OnWay(w, key), impl.Total(w, key))
		}
	}
	if impl.Settled(w) != settled {
		t.Fatalf("%s: Settled is %v", what, !settled)
	}
}

// withNodes has keepers of nodes as they are, right or not.
func withNodes(list ...impl.Node) impl.World {
	var w impl.World
	for _, n := range list {
		w.Keepers = append(w.Keepers, impl.Keeper{Base: n, Node: n})
	}
	return w
}

func TestOnWayByWhatWasSeen(t *testing.T) {
	for _, c := range []struct {
		name string
		id   int
		seen []impl.Seen
		way  int
	}{
		{"the least that is below Low", 1, []impl.Seen{{From: 0, Low: 8}}, 0},
		{"just below Low", 7, []impl.Seen{{From: 0, Low: 8}}, 0},
		{"just Low", 8, []impl.Seen{{From: 0, Low: 8}}, 5},
		{"above Low", 9, []impl.Seen{{From: 0, Low: 8}}, 5},
		{"just Low and among Ids", 8, []impl.Seen{{From: 0, Low: 8, Ids: []int{8, 10, 12}}}, 0},
		{"in the middle of Ids", 10, []impl.Seen{{From: 0, Low: 8, Ids: []int{8, 10, 12}}}, 0},
		{"the last of Ids", 12, []impl.Seen{{From: 0, Low: 8, Ids: []int{8, 10, 12}}}, 0},
		{"between two of Ids", 9, []impl.Seen{{From: 0, Low: 8, Ids: []int{8, 10, 12}}}, 5},
		{"behind all of Ids", 13, []impl.Seen{{From: 0, Low: 8, Ids: []int{8, 10, 12}}}, 5},
		{"below Low of the second sender", 7, []impl.Seen{{From: -3, Low: 1}, {From: 0, Low: 8}}, 0},
		{"taken from another sender", 7, []impl.Seen{{From: 0, Low: 7}, {From: 2, Low: 9, Ids: []int{7}}}, 5},
		{"taken only from another sender", 7, []impl.Seen{{From: 2, Low: 9}}, 5},
		{"where nothing was seen", 7, nil, 5},
		{"where two tell of the sender, by the first", 7, []impl.Seen{{From: 0, Low: 7}, {From: 0, Low: 8}}, 5},
	} {
		sender := impl.Node{Id: 0, Out: sentTo(1, "a", 5, c.id)}
		w := withNodes(sender, impl.Node{Id: 1, Seen: c.seen})
		if got := impl.OnWay(w, "a"); got != c.way || impl.Total(w, "a") != c.way {
			t.Errorf("%s: OnWay is %d, want %d", c.name, got, c.way)
		}
		checkAudit(t, c.name, w)
	}
}

// TestOnWayToNobody has transfers to nodes that are not there, and one to the sender itself.
func TestOnWayToNobody(t *testing.T) {
	for _, to := range []int{-1, 2, 3, 29, 30, 1 << 32, math.MinInt, math.MaxInt, 0} {
		w := withNodes(impl.Node{Id: 0, Out: sentTo(to, "a", 5, 1, 2), Purses: []impl.Purse{{Key: "a", Minted: 12, Free: 2}}}, impl.Node{Id: 1, Seen: []impl.Seen{{From: 0, Low: 9}}})
		if impl.OnWay(w, "a") != 10 || impl.Total(w, "a") != 12 || !impl.Balanced(w, "a") || impl.Settled(w) {
			t.Errorf("of what was sent to %d %d are on the way", to, impl.OnWay(w, "a"))
		}
		checkAudit(t, fmt.Sprint("to ", to), w)
	}
	w := withNodes(impl.Node{Id: 0, Out: sentTo(1, "a", 5, 1)})
	if impl.OnWay(w, "a") != 5 {
		t.Error("what was sent to a node that there is no keeper of is on the way")
	}
}

// TestTheSenderIsTheNodesNumber has a node at another place than its number tells: by that it is known to whom it pays.
func TestTheSenderIsTheNodesNumber(t *testing.T) {
	out := sentTo(1, "a", 5, 1)
	for from, way := range map[int]int{7: 0, 0: 5, 1: 5} {
		w := withNodes(impl.Node{Id: 7, Out: out}, impl.Node{Id: 1, Seen: []impl.Seen{{From: from, Low: 2}}})
		if got := impl.OnWay(w, "a"); got != way {
			t.Errorf("where node 1 has seen something of %d, %d are on the way", from, got)
		}
	}
}

// threeNodes has some of each kind of several keys at several nodes.
func threeNodes() impl.World {
	w := withNodes(
		impl.Node{
			Id: 0, Parent: -1, Kids: []int{1, 2}, Next: 9,
			Purses: []impl.Purse{{Key: "b", Minted: 100, Free: 20, Spent: 7}, {Key: "c", Minted: 40}, {Key: "d", Minted: 3, Free: 3}},
			Out:    slices.Concat(sentTo(1, "b", 11, 2), sentTo(2, "b", 13, 3), sentTo(1, "c", 17, 5), sentTo(2, "b", 19, 8)),
			Seen:   []impl.Seen{{From: 1, Low: 4, Ids: []int{6}}, {From: 2, Low: 1}},
		},
		impl.Node{
			Id: 1, Parent: 0, Next: 8,
			Purses: []impl.Purse{{Key: "b", Free: 1, Spent: 2}, {Key: "c", Free: 5, Spent: 9}},
			Out:    slices.Concat(sentTo(0, "b", 100, 3), sentTo(0, "c", 23, 4), sentTo(0, "b", 29, 6), sentTo(0, "b", 31, 7)),
			Seen:   []impl.Seen{{From: 0, Low: 2, Ids: []int{5}}},
		},
		impl.Node{
			Id: 2, Parent: 0, Next: 2,
			Purses: []impl.Purse{{Key: "0"}, {Key: "b", Free: 40}, {Key: "z", Minted: 77}},
			Seen:   []impl.Seen{{From: 0, Low: 4}},
		},
	)
	w.Tree = starOf(3)
	return w
}

func TestSumsOfSeveralNodesAndKeys(t *testing.T) {
	w := threeNodes()
	if !impl.WorldOk(w) {
		t.Fatal("it is right")
	}
	for key, want := range map[string][3]int{
		// Of b node 1 has not seen 2, node 2 not 8, and node 0 not 7; of c node 0 has not seen 4.
		"b":  {11 + 19 + 31, 11 + 19 + 31 + 27 + 3 + 40, 100},
		"c":  {23, 23 + 14, 40},
		"d":  {0, 3, 3},
		"0":  {},
		"z":  {},
		"a":  {},
		"bb": {}, "": {}, "B": {},
	} {
		got := [3]int{impl.OnWay(w, key), impl.Total(w, key), impl.MintedOf(w, key)}
		if got != want || impl.Balanced(w, key) != (want[1] == want[2]) {
			t.Errorf("of %q the sums are %v, want %v", key, got, want)
		}
	}
	if keys := impl.KeysOf(w); !slices.Equal(keys, []string{"0", "b", "c", "d", "z"}) {
		t.Errorf("the keys are %q", keys)
	}
	const want = "0 minted 0 spent 0 free 0 way 0\nb minted 100 spent 9 free 61 way 61\nc minted 40 spent 9 free 5 way 23\nd minted 3 spent 0 free 3 way 0\nz minted 0 spent 0 free 0 way 0\n"
	if got := impl.AuditText(w); got != want {
		t.Errorf("AuditText is %q", got)
	}
	checkAudit(t, "three nodes", w)
}

// TestTheAuditOfTheNodesAsTheyAre has a Base that differs from its Node: the Node counts.
func TestTheAuditOfTheNodesAsTheyAre(t *testing.T) {
	w := threeNodes()
	for at := range w.Keepers {
		w.Keepers[at].Base = impl.Node{Id: at, Purses: []impl.Purse{{Key: "base", Minted: 9, Free: 9, Spent: 9}}, Out: sentTo(9, "base", 9, 1)}
	}
	if impl.AuditText(w) != impl.AuditText(threeNodes()) || impl.OnWay(w, "base")+impl.Total(w, "base")+impl.MintedOf(w, "base") != 0 {
		t.Errorf("with other Bases it is %q", impl.AuditText(w))
	}
	checkAudit(t, "other Bases", w)
}

func TestAuditsOfNothing(t *testing.T) {
	single := worldOf(t, -1)
	for name, w := range map[string]impl.World{
		"no world":           {},
		"one node":           single,
		"many nodes":         worldOf(t, -1, 0, 0, 1, 2),
		"a tree alone":       {Tree: starOf(5)},
		"nodes without keys": withNodes(impl.Node{}, impl.Node{Id: 1}),
	} {
		for _, key := range []string{"a", "", "Z"} {
			if impl.OnWay(w, key) != 0 || impl.Total(w, key) != 0 || impl.MintedOf(w, key) != 0 || !impl.Balanced(w, key) || impl.Granted(w, key) != 0 {
				t.Errorf("%s: of %q there is something", name, key)
			}
		}
		if len(impl.KeysOf(w)) > 0 || impl.AuditText(w) != "" || !impl.Settled(w) {
			t.Errorf("%s: the keys are %q, the text is %q", name, impl.KeysOf(w), impl.AuditText(w))
		}
	}
}

// TestBalancedThroughAllThatHappens tells, event by event, where a minted 10 and b minted 4 are.
func TestBalancedThroughAllThatHappens(t *testing.T) {
	const all = "a minted 10 spent 0 free 10 way 0\nb minted 4 spent 0 free 4 way 0\n"
	const sent = "a minted 10 spent 0 free 4 way 6\nb minted 4 spent 0 free 4 way 0\n"
	tick := impl.Op{Kind: impl.OpTick}
	w := worldOf(t, -1, 0, 1)
	for i, step := range []struct {
		e    impl.Event
		text string
	}{
		{doAt(0, mintOf("a", 10)), "a minted 10 spent 0 free 10 way 0\n"},
		{impl.Event{Kind: impl.EvCrash, At: 0}, ""},
		{doAt(0, mintOf("b", 4)), "b minted 4 spent 0 free 4 way 0\n"},
		{doAt(0, mintOf("a", 10)), all},
		{syncAt(0), all},
		{doAt(1, wantOf("a", 6)), all},
		{syncAt(1), all},
		{impl.Event{Kind: impl.EvTwice}, all},
		{impl.Event{Kind: impl.EvDeliver}, sent},
		// What was not safe was not sent.
		{impl.Event{Kind: impl.EvCrash, At: 0}, all},
		{impl.Event{Kind: impl.EvDeliver}, sent},
		{syncAt(0), sent},
		{impl.Event{Kind: impl.EvCrash, At: 0}, sent},
		{impl.Event{Kind: impl.EvFold, At: 0}, sent},
		{impl.Event{Kind: impl.EvTwice}, sent},
		{impl.Event{Kind: impl.EvDrop}, sent},
		{impl.Event{Kind: impl.EvTwice}, sent},
		{impl.Event{Kind: impl.EvSpoil, At: 1}, sent},
		{impl.Event{Kind: impl.EvTwice}, sent},
		{impl.Event{Kind: impl.EvDeliver}, all},
		// What was taken, but is not safe, is on the way again.
		{impl.Event{Kind: impl.EvCrash, At: 1}, sent},
		{impl.Event{Kind: impl.EvDeliver, At: 1}, all},
		{syncAt(1), all},
		{impl.Event{Kind: impl.EvCrash, At: 1}, all},
		{impl.Event{Kind: impl.EvFold, At: 1}, all},
		{doAt(0, tick), all},
		{syncAt(0), all},
		{impl.Event{Kind: impl.EvDrop}, all},
		{impl.Event{Kind: impl.EvDeliver, At: 1}, all},
		{impl.Event{Kind: impl.EvDeliver}, all},
		{impl.Event{Kind: impl.EvCrash, At: 0}, all},
		{doAt(1, admitOf(1, "a", 2)), "a minted 10 spent 2 free 8 way 0\nb minted 4 spent 0 free 4 way 0\n"},
		{doAt(0, admitOf(1, "b", 4)), "a minted 10 spent 2 free 8 way 0\nb minted 4 spent 4 free 0 way 0\n"},
		{doAt(1, impl.Op{Kind: impl.OpBack, Key: "a", N: 9}), "a minted 10 spent 2 free 4 way 4\nb minted 4 spent 4 free 0 way 0\n"},
		{syncAt(1), "a minted 10 spent 2 free 4 way 4\nb minted 4 spent 4 free 0 way 0\n"},
		{doAt(1, releaseOf(1)), "a minted 10 spent 0 free 6 way 4\nb minted 4 spent 4 free 0 way 0\n"},
		{impl.Event{Kind: impl.EvCrash, At: 1}, "a minted 10 spent 2 free 4 way 4\nb minted 4 spent 4 free 0 way 0\n"},
		{impl.Event{Kind: impl.EvCrash, At: 0}, "a minted 10 spent 2 free 4 way 4\nb minted 4 spent 0 free 4 way 0\n"},
	} {
		w = through(t, w, step.e)
		wantAudit(t, fmt.Sprint("behind event ", i, " ", step.e), w, step.text)
	}
	if !impl.WorldOk(w) {
		t.Error("it is not right")
	}
	wantAudit(t, "behind a calm", impl.WorldCalm(w, 1), "a minted 10 spent 2 free 8 way 0\nb minted 4 spent 0 free 4 way 0\n")
}

// TestWhatIsNotBalanced has worlds in which something is missing, or more than was minted.
func TestWhatIsNotBalanced(t *testing.T) {
	w := busyWorld(t)
	for _, key := range []string{"a", "b", "c"} {
		if !impl.Balanced(w, key) || impl.MintedOf(w, key) == 0 {
			t.Fatalf("of %s there are %d, and %d were minted", key, impl.Total(w, key), impl.MintedOf(w, key))
		}
	}
	if impl.OnWay(w, "a") != 0 || impl.OnWay(w, "b") != 3 || impl.Settled(w) {
		t.Fatalf("on the way is %s", impl.AuditText(w))
	}
	for name, by := range map[string]func(*impl.World){
		"one fewer Free":      func(w *impl.World) { w.Keepers[0].Node.Purses[1].Free-- },
		"one more Free":       func(w *impl.World) { w.Keepers[0].Node.Purses[1].Free++ },
		"one more Spent":      func(w *impl.World) { w.Keepers[0].Node.Purses[1].Spent++ },
		"one more Minted":     func(w *impl.World) { w.Keepers[0].Node.Purses[1].Minted++ },
		"a purse more":        func(w *impl.World) { w.Keepers[3].Node.Purses = []impl.Purse{{Key: "b", Free: 1}} },
		"a transfer lost":     func(w *impl.World) { w.Keepers[0].Node.Out = w.Keepers[0].Node.Out[:1] },
		"one seen, not taken": func(w *impl.World) { w.Keepers[4].Node.Seen[0].Low = 3 },
		"one taken, not seen": func(w *impl.World) { w.Keepers[4].Node.Purses = []impl.Purse{{Key: "b", Free: 3}} },
	} {
		other := cloneWorld(w)
		by(&other)
		if impl.Balanced(other, "b") || !impl.Balanced(other, "a") || !impl.Balanced(other, "c") {
			t.Errorf("with %s it is %s", name, impl.AuditText(other))
		}
		checkAudit(t, name, other)
	}
	// What is minted below node 0 does not count.
	other := cloneWorld(w)
	other.Keepers[1].Node.Purses[0].Minted = 5
	if !impl.Balanced(other, "a") || impl.MintedOf(other, "a") != 50 {
		t.Errorf("of a %d were minted", impl.MintedOf(other, "a"))
	}
}

func TestKeysOf(t *testing.T) {
	purses := func(keys ...string) []impl.Purse {
		var list []impl.Purse
		for _, key := range keys {
			list = append(list, impl.Purse{Key: key})
		}
		return list
	}
	for _, c := range []struct {
		lists [][]impl.Purse
		want  []string
	}{
		{[][]impl.Purse{purses("a")}, []string{"a"}},
		{[][]impl.Purse{purses("a", "b", "c")}, []string{"a", "b", "c"}},
		{[][]impl.Purse{purses("a"), purses("a"), purses("a")}, []string{"a"}},
		{[][]impl.Purse{purses("b", "d"), nil, purses("a", "c", "e")}, []string{"a", "b", "c", "d", "e"}},
		{[][]impl.Purse{purses("a", "c"), purses("b", "c"), purses("a", "b", "d")}, []string{"a", "b", "c", "d"}},
		{[][]impl.Purse{nil, nil, purses("z"), purses("0")}, []string{"0", "z"}},
		{[][]impl.Purse{purses("a", "aa", "ab", "b"), purses("0a", "9", "a0", "aaa")}, []string{"0a", "9", "a", "a0", "aa", "aaa", "ab", "b"}},
		// Lists that are none: keys that do not ascend, twice the same one, and what is no key.
		{[][]impl.Purse{purses("c", "b", "a"), purses("b", "a", "b", "b")}, []string{"a", "b", "c"}},
		{[][]impl.Purse{purses("\xff", "Z", ""), purses(" ", "a", "")}, []string{"", " ", "Z", "a", "\xff"}},
	} {
		var w impl.World
		for at, list := range c.lists {
			w.Keepers = append(w.Keepers, impl.Keeper{Node: impl.Node{Id: at, Purses: list}})
		}
		if got := impl.KeysOf(w); !slices.Equal(got, c.want) {
			t.Errorf("the keys of %v are %q, want %q", c.lists, got, c.want)
		}
		checkAudit(t, "keys", w)
	}
}

// TestManyKeys has keys in many orders, and as many as a right world may have.
func TestManyKeys(t *testing.T) {
	for start := range uint32(200) {
		c := &chooser{start*40503 + 11}
		w := impl.World{Keepers: make([]impl.Keeper, 1+c.below(30))}
		kinds := 1 + c.below(400)
		for at := range w.Keepers {
			n := &w.Keepers[at].Node
			n.Id = at
			for range c.below(21) {
				n.Purses = append(n.Purses, impl.Purse{Key: strconv.FormatInt(int64(c.below(kinds)), 36), Minted: c.below(9), Free: c.below(9), Spent: c.below(9)})
			}
		}
		checkAudit(t, "many keys", w)
	}
	w, _ := impl.WorldNew(starOf(30))
	for at := range w.Keepers {
		n := &w.Keepers[at].Node
		for i := range 20 {
			n.Purses = append(n.Purses, impl.Purse{Key: fmt.Sprintf("k%04d", 7*i+at*1000), Minted: at, Free: i, Spent: 1})
		}
		n.Next = 41
		for i := range 40 {
			n.Out = append(n.Out, impl.Sent{Id: 1 + i, To: n.Seen[i%len(n.Seen)].From, Key: n.Purses[i%20].Key, N: 1 + i})
		}
		w.Keepers[at].Base = cloneNode(*n)
	}
	if !impl.WorldOk(w) || len(impl.KeysOf(w)) != 600 {
		t.Fatalf("it is right, with %d keys", len(impl.KeysOf(w)))
	}
	checkAudit(t, "all keys", w)
}

func toldAt(at int, op impl.Op, code int) impl.Told {
	return impl.Told{At: at, Answer: impl.Answer{Op: op, Code: code}}
}

func TestGranted(t *testing.T) {
	for _, c := range []struct {
		name string
		told []impl.Told
		back []impl.Given
		a, b int
	}{
		{"nothing told", nil, nil, 0, 0},
		{"nothing told, but released", nil, []impl.Given{{At: 1, No: 1}}, 0, 0},
		{"one", []impl.Told{toldAt(1, admitOf(1, "a", 5), impl.Done)}, nil, 5, 0},
		{"one of the other key", []impl.Told{toldAt(1, admitOf(1, "b", 5), impl.Done)}, nil, 0, 5},
		{"a refused, a stale and a bad one", []impl.Told{toldAt(1, admitOf(1, "a", 5), impl.Refused), toldAt(1, admitOf(2, "a", 7), impl.Stale), toldAt(1, admitOf(3, "a", 11), impl.Bad)}, nil, 0, 0},
		{"codes that are none", []impl.Told{toldAt(1, admitOf(1, "a", 5), 4), toldAt(1, admitOf(2, "a", 7), -1)}, nil, 0, 0},
		{"a refused one ahead of one", []impl.Told{toldAt(1, admitOf(1, "a", 5), impl.Refused), toldAt(1, admitOf(1, "a", 7), impl.Done)}, nil, 7, 0},
		{"other operations", []impl.Told{toldAt(0, mintOf("a", 5), impl.Done), toldAt(1, releaseOf(1), impl.Done), toldAt(1, wantOf("a", 5), impl.Done), toldAt(1, impl.Op{Kind: impl.OpBack, Key: "a", N: 5}, impl.Done),
			toldAt(1, impl.Op{Kind: impl.OpTick, Key: "a", N: 5}, impl.Done), toldAt(1, impl.Op{Kind: impl.OpHear, Key: "a", N: 5}, impl.Done), toldAt(1, impl.Op{Kind: 7, Key: "a", N: 5}, impl.Done)}, nil, 0, 0},
		{"other operations of that node and No ahead", []impl.Told{toldAt(1, impl.Op{No: 1, Key: "a", N: 3}, impl.Done), toldAt(1, admitOf(1, "a", 5), impl.Done)}, nil, 5, 0},
		{"several", []impl.Told{toldAt(1, admitOf(1, "a", 5), impl.Done), toldAt(1, admitOf(2, "a", 7), impl.Done), toldAt(1, admitOf(3, "b", 11), impl.Done), toldAt(2, admitOf(4, "a", 13), impl.Done)}, nil, 25, 11},
		{"the same No at two nodes", []impl.Told{toldAt(1, admitOf(1, "a", 5), impl.Done), toldAt(2, admitOf(1, "a", 5), impl.Done)}, nil, 10, 0},
		{"one told twice", []impl.Told{toldAt(1, admitOf(1, "a", 5), impl.Done), toldAt(1, admitOf(1, "a", 5), impl.Done)}, nil, 5, 0},
		{"one told three times, with others between", []impl.Told{toldAt(1, admitOf(1, "a", 5), impl.Done), toldAt(1, admitOf(2, "a", 1), impl.Done), toldAt(1, admitOf(1, "a", 5), impl.Done), toldAt(2, admitOf(2, "b", 1), impl.Done), toldAt(1, admitOf(1, "a", 5), impl.Done)}, nil, 6, 1},
		{"one told with a greater N behind", []impl.Told{toldAt(1, admitOf(1, "a", 5), impl.Done), toldAt(1, admitOf(1, "a", 9), impl.Done)}, nil, 5, 0},
		{"one told with a lesser N behind", []impl.Told{toldAt(1, admitOf(1, "a", 9), impl.Done), toldAt(1, admitOf(1, "a", 5), impl.Done)}, nil, 9, 0},
		{"one told of two keys", []impl.Told{toldAt(1, admitOf(1, "b", 9), impl.Done), toldAt(1, admitOf(1, "a", 5), impl.Done)}, nil, 5, 9},
		{"one released", []impl.Told{toldAt(1, admitOf(1, "a", 5), impl.Done), toldAt(1, admitOf(2, "a", 7), impl.Done)}, []impl.Given{{At: 1, No: 1}}, 7, 0},
		{"one told twice and released", []impl.Told{toldAt(1, admitOf(1, "a", 5), impl.Done), toldAt(1, admitOf(1, "a", 9), impl.Done)}, []impl.Given{{At: 1, No: 1}}, 0, 0},
		{"one released twice", []impl.Told{toldAt(1, admitOf(1, "a", 5), impl.Done), toldAt(1, admitOf(2, "a", 7), impl.Done)}, []impl.Given{{At: 1, No: 2}, {At: 1, No: 2}}, 5, 0},
		{"the No released at another node", []impl.Told{toldAt(1, admitOf(1, "a", 5), impl.Done), toldAt(2, admitOf(1, "a", 7), impl.Done)}, []impl.Given{{At: 2, No: 1}}, 5, 0},
		{"another No released at the node", []impl.Told{toldAt(1, admitOf(1, "a", 5), impl.Done)}, []impl.Given{{At: 1, No: 2}, {At: 2, No: 1}, {At: 0, No: 0}}, 5, 0},
		{"of each key one released", []impl.Told{toldAt(1, admitOf(1, "a", 5), impl.Done), toldAt(1, admitOf(2, "b", 7), impl.Done), toldAt(1, admitOf(3, "b", 11), impl.Done)}, []impl.Given{{At: 1, No: 2}, {At: 1, No: 1}}, 0, 11},
		{"all released", []impl.Told{toldAt(1, admitOf(1, "a", 5), impl.Done), toldAt(1, admitOf(2, "b", 7), impl.Done)}, []impl.Given{{At: 1, No: 2}, {At: 1, No: 1}}, 0, 0},
		{"nodes and numbers that are none", []impl.Told{toldAt(-1, admitOf(-1, "a", 5), impl.Done), toldAt(math.MaxInt, admitOf(math.MinInt, "a", 7), impl.Done), toldAt(-1, admitOf(-2, "a", 11), impl.Done)}, []impl.Given{{At: -1, No: -2}}, 12, 0},
	} {
		for _, w := range []impl.World{{}, worldOf(t, -1, 0, 0)} {
			w.Told, w.Back = c.told, c.back
			if a, b := impl.Granted(w, "a"), impl.Granted(w, "b"); a != c.a || b != c.b || impl.Granted(w, "c") != 0 {
				t.Errorf("%s: of a %d are granted, want %d, and of b %d, want %d", c.name, a, c.a, b, c.b)
			}
			checkAudit(t, c.name, w)
		}
	}
}

// TestGrantedInAWorld asks what is granted while requests are let through, told, lost and released.
func TestGrantedInAWorld(t *testing.T) {
	w := worldOf(t, -1, 0)
	for i, step := range []struct {
		e       impl.Event
		granted int
	}{
		{doAt(0, mintOf("a", 20)), 0},
		{doAt(0, admitOf(1, "a", 5)), 0},
		{impl.Event{Kind: impl.EvCrash, At: 0, N: 17}, 0},
		{doAt(0, admitOf(1, "a", 5)), 0},
		{syncAt(0), 5},
		{doAt(0, admitOf(1, "a", 5)), 5},
		{syncAt(0), 5},
		{doAt(0, admitOf(2, "a", 7)), 5},
		{impl.Event{Kind: impl.EvFold, At: 0}, 5},
		{syncAt(0), 12},
		{impl.Event{Kind: impl.EvFold, At: 0}, 12},
		{impl.Event{Kind: impl.EvCrash, At: 0}, 12},
		// What was released is taken back at once, and stays so when the release itself is lost.
		{doAt(0, releaseOf(1)), 7},
		{impl.Event{Kind: impl.EvCrash, At: 0}, 7},
		{doAt(0, admitOf(1, "a", 5)), 7},
		{syncAt(0), 7},
		{doAt(0, releaseOf(2)), 0},
		{syncAt(0), 0},
		{doAt(0, admitOf(3, "a", 15)), 0},
		{syncAt(0), 15},
	} {
		w = through(t, w, step.e)
		checkAudit(t, fmt.Sprint("behind event ", i), w)
		if got := impl.Granted(w, "a"); got != step.granted || impl.Granted(w, "b") != 0 || !impl.Balanced(w, "a") {
			t.Fatalf("behind event %d %d are granted, want %d", i, got, step.granted)
		}
	}
	if got := impl.MintedOf(w, "a"); got != 20 {
		t.Errorf("%d were minted", got)
	}
}

func TestSettled(t *testing.T) {
	purse := func(key string) []impl.Purse { return []impl.Purse{{Key: key}} }
	seen := []impl.Seen{{From: 0, Low: 2}}
	for name, c := range map[string]struct {
		w    impl.World
		want bool
	}{
		"on the way":                          {withNodes(impl.Node{Purses: purse("a"), Out: sentTo(1, "a", 1, 2)}, impl.Node{Id: 1, Seen: seen}), false},
		"seen, of which the sender knows not": {withNodes(impl.Node{Purses: purse("a"), Out: sentTo(1, "a", 1, 1)}, impl.Node{Id: 1, Seen: seen}), true},
		"the last key on the way":             {withNodes(impl.Node{Purses: slices.Concat(purse("a"), purse("b")), Out: sentTo(1, "b", 1, 2)}, impl.Node{Id: 1, Seen: seen}), false},
		"the first key on the way":            {withNodes(impl.Node{Purses: slices.Concat(purse("a"), purse("b")), Out: sentTo(1, "a", 1, 2)}, impl.Node{Id: 1, Seen: seen}), false},
		"a key that another node has":         {withNodes(impl.Node{Out: sentTo(1, "a", 1, 2)}, impl.Node{Id: 1, Seen: seen, Purses: purse("a")}), false},
		"a key that no node has":              {withNodes(impl.Node{Purses: purse("b"), Out: sentTo(1, "a", 1, 2)}, impl.Node{Id: 1, Seen: seen}), true},
		"to nobody":                           {withNodes(impl.Node{Purses: purse("a"), Out: sentTo(7, "a", 1, 1)}), false},
		"fewer than nothing":                  {withNodes(impl.Node{Purses: purse("a"), Out: sentTo(7, "a", -1, 1)}), false},
		"nothing sent":                        {withNodes(impl.Node{Purses: purse("a")}), true},
	} {
		if got := impl.Settled(c.w); got != c.want {
			t.Errorf("%s: Settled is %v", name, got)
		}
		checkAudit(t, name, c.w)
	}
	// Frames on the way, and what waits, do not count: a want moves nothing.
	w := through(t, worldOf(t, -1, 0), doAt(0, mintOf("a", 9)), doAt(1, wantOf("a", 1)), syncAt(1), doAt(1, wantOf("a", 2)))
	if len(w.Net) != 1 || !impl.Settled(w) {
		t.Error("it is settled")
	}
}

// TestAuditsOfWrongWorlds asks only for what the sentences tell, which ask for no right world.
func TestAuditsOfWrongWorlds(t *testing.T) {
	list := wrongWorlds(t)
	change := func(name string, by func(*impl.World)) {
		w := cloneWorld(busyWorld(t))
		by(&w)
		list[name] = w
	}
	change("a purse stands twice", func(w *impl.World) {
		w.Keepers[0].Node.Purses = append(w.Keepers[0].Node.Purses, impl.Purse{Key: "a", Minted: 1000, Free: 500, Spent: 500})
	})
	change("amounts are below 0", func(w *impl.World) {
		w.Keepers[0].Node.Purses[0] = impl.Purse{Key: "a", Minted: -9, Free: -20, Spent: -3}
	})
	change("amounts are great", func(w *impl.World) {
		w.Keepers[0].Node.Purses[0] = impl.Purse{Key: "a", Minted: math.MaxInt, Free: math.MaxInt, Spent: math.MaxInt}
		w.Keepers[1].Node.Out = sentTo(9, "a", math.MinInt, 1, 2, 3)
	})
	change("what was sent does not ascend", func(w *impl.World) { w.Keepers[0].Node.Out = sentTo(4, "b", 3, 9, 2, 2, -7, 0) })
	change("keys are none", func(w *impl.World) {
		w.Keepers[0].Node.Purses[0].Key = "A key\n"
		w.Keepers[0].Node.Out[0].Key = "A key\n"
		w.Told[2].Answer.Op.Key = "A key\n"
	})
	change("what was seen does not ascend", func(w *impl.World) { w.Keepers[4].Node.Seen[0].Ids = []int{9, 2, -1} })
	for at := range 5 {
		change(fmt.Sprint("node ", at, " has seen nothing of others"), func(w *impl.World) { w.Keepers[at].Node.Seen = nil })
		change(fmt.Sprint("all was sent to ", at), func(w *impl.World) {
			for i := range w.Keepers[0].Node.Out {
				w.Keepers[0].Node.Out[i].To = at
			}
		})
	}
	for name, w := range list {
		if impl.WorldOk(w) {
			t.Errorf("where %s, a world is not right", name)
		}
		checkAudit(t, "where "+name, w)
	}
}

// eventOrRelease chooses, now and then, the release of a request that was let through, which is seldom met by chance.
func (c *chooser) eventOrRelease(w impl.World) impl.Event {
	at := c.below(len(w.Keepers))
	let := slices.DeleteFunc(slices.Clone(w.Keepers[at].Node.Reqs), func(r impl.Req) bool { return r.State != 0 })
	if c.below(4) > 0 || len(let) == 0 {
		return c.event(w)
	}
	return doAt(at, releaseOf(let[c.below(len(let))].No))
}

// TestTheAuditOfAllThatHappens asks for the tenth promise, behind each of many events.
func TestTheAuditOfAllThatHappens(t *testing.T) {
	times := map[string]int{}
	for start := range uint32(100) {
		c := &chooser{start*2654435761 + 23}
		w, _ := impl.WorldNew(treeBy(2+c.below(7), c.below))
		for range 300 {
			w, _ = impl.WorldDo(w, c.eventOrRelease(w))
			checkAudit(t, "a world", w)
			for _, key := range impl.KeysOf(w) {
				minted, granted := impl.MintedOf(w, key), impl.Granted(w, key)
				if !impl.Balanced(w, key) || granted > minted {
					t.Fatalf("of %s %d were minted, there are %d, and %d were granted, in\n%s", key, minted, impl.Total(w, key), granted, shownWorld(w))
				}
				if granted > 0 {
					times["granted"]++
				}
				if impl.OnWay(w, key) > 0 {
					times["on the way"]++
				}
			}
			if impl.Settled(w) {
				times["settled"]++
			}
		}
		calm := impl.WorldCalm(w, 3)
		checkAudit(t, "a calm", calm)
		for _, key := range impl.KeysOf(calm) {
			if !impl.Balanced(calm, key) || impl.MintedOf(calm, key) != impl.MintedOf(w, key) || impl.Granted(calm, key) < impl.Granted(w, key) || impl.Granted(calm, key) > impl.MintedOf(calm, key) {
				t.Fatalf("a calm makes %q of %q", impl.AuditText(calm), impl.AuditText(w))
			}
		}
		if !impl.Settled(calm) {
			t.Fatalf("behind a calm there is something on the way: %s", impl.AuditText(calm))
		}
		for _, told := range w.Told {
			if slices.Contains(w.Back, impl.Given{At: told.At, No: told.Answer.Op.No}) && told.Answer.Op.Kind == impl.OpAdmit && told.Answer.Code == impl.Done {
				times["taken back"]++
			}
		}
	}
	for _, what := range []string{"granted", "on the way", "settled", "taken back"} {
		if times[what] < 100 {
			t.Errorf("%s came %d times only", what, times[what])
		}
	}
}

// auditCalls has all that is told of a world and a key, as texts.
func auditCalls() map[string]func(impl.World, string) []string {
	number := func(call func(impl.World, string) int) func(impl.World, string) []string {
		return func(w impl.World, key string) []string { return []string{strconv.Itoa(call(w, key))} }
	}
	return map[string]func(impl.World, string) []string{
		"OnWay":     number(impl.OnWay),
		"Total":     number(impl.Total),
		"MintedOf":  number(impl.MintedOf),
		"Granted":   number(impl.Granted),
		"Balanced":  func(w impl.World, key string) []string { return []string{strconv.FormatBool(impl.Balanced(w, key))} },
		"KeysOf":    func(w impl.World, _ string) []string { return impl.KeysOf(w) },
		"AuditText": func(w impl.World, _ string) []string { return []string{impl.AuditText(w)} },
		"Settled":   func(w impl.World, _ string) []string { return []string{strconv.FormatBool(impl.Settled(w))} },
	}
}

func TestAuditsWriteIntoNothing(t *testing.T) {
	for i, w := range append(someWorlds(t), threeNodes()) {
		given := cloneWorld(w)
		before := worldWithRoom(given)
		for name, call := range auditCalls() {
			for _, key := range []string{"a", "b", "nothing", ""} {
				first := call(given, key)
				want := slices.Clone(first)
				_ = append(first, "behind")
				for at := range first {
					first[at] = "written"
				}
				if worldWithRoom(given) != before {
					t.Fatalf("%s of world %d writes into it, or its answer shares memory with it", name, i)
				}
				if again := call(given, key); !slices.Equal(again, want) {
					t.Fatalf("%s of world %d is %q first, and %q then", name, i, want, again)
				}
			}
		}
	}
}

func TestAuditsShareNoText(t *testing.T) {
	alone := withNodes(impl.Node{Purses: []impl.Purse{{Key: strings.Repeat("k", 3)}}})
	for i, w := range append(someWorlds(t), threeNodes(), alone) {
		given := worldTexts(w)
		keys := impl.KeysOf(w)
		for at, text := range append(keys, impl.AuditText(w)) {
			for _, other := range slices.Concat(given, keys[:min(at, len(keys))], impl.KeysOf(w)) {
				if liesIn(text, other) || liesIn(other, text) {
					t.Fatalf("world %d: the text %.40q is shared", i, text)
				}
			}
		}
	}
}

// TestAuditsAreAlwaysTheSame asks for the same world many times, and from several sides at once.
func TestAuditsAreAlwaysTheSame(t *testing.T) {
	w := threeNodes()
	for i := range 20 {
		w.Keepers[2].Node.Purses = append(w.Keepers[2].Node.Purses, impl.Purse{Key: fmt.Sprintf("more%d", i*37%20), Free: i})
	}
	want := plainAudit(w)
	answers := make(chan string)
	for range 8 {
		go func() {
			seen := map[string]bool{}
			for range 200 {
				seen[impl.AuditText(w)] = true
			}
			answers <- strings.Join(slices.Sorted(maps.Keys(seen)), "|")
		}()
	}
	for range 8 {
		if got := <-answers; got != want {
			t.Errorf("AuditText is %q, want %q", got, want)
		}
	}
}
