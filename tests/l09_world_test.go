package tests

import (
	"fmt"
	"math"
	"slices"
	"strconv"
	"strings"
	"testing"

	"loop.example/g00264/impl"
)

// cloneWorld lays a world into memory of its own, with spare room behind each list.
func cloneWorld(w impl.World) impl.World {
	w.Tree.Up = append(slices.Clone(w.Tree.Up), 77, 78)[:len(w.Tree.Up)]
	w.Keepers = append(slices.Clone(w.Keepers), impl.Keeper{Safe: 77})[:len(w.Keepers)]
	for i, k := range w.Keepers {
		w.Keepers[i] = cloneKeeper(k)
	}
	w.Net = append(slices.Clone(w.Net), "room", "roomier")[:len(w.Net)]
	w.Told = append(slices.Clone(w.Told), impl.Told{At: 77}, impl.Told{At: 78})[:len(w.Told)]
	w.Back = append(slices.Clone(w.Back), impl.Given{At: 77}, impl.Given{At: 78})[:len(w.Back)]
	return w
}

// worldWithRoom shows a world with all that lies behind its lists.
func worldWithRoom(w impl.World) string {
	text := fmt.Sprintf("%v %q %v %v", w.Tree.Up[:cap(w.Tree.Up)], w.Net[:cap(w.Net)], w.Told[:cap(w.Told)], w.Back[:cap(w.Back)])
	for _, k := range w.Keepers[:cap(w.Keepers)] {
		text += keeperWithRoom(k)
	}
	return text
}

func sameWorld(a, b impl.World) bool {
	return slices.Equal(a.Tree.Up, b.Tree.Up) && slices.EqualFunc(a.Keepers, b.Keepers, sameKeeper) && slices.Equal(a.Net, b.Net) &&
		slices.Equal(a.Told, b.Told) && slices.Equal(a.Back, b.Back)
}

func shownWorld(w impl.World) string {
	text := fmt.Sprintf("tree %v net %d %.200q told %d %.200s back %d %.200s", w.Tree.Up, len(w.Net), w.Net, len(w.Told), fmt.Sprint(w.Told), len(w.Back), fmt.Sprint(w.Back))
	for _, k := range w.Keepers {
		text += "\n" + shownKeeper(k)
	}
	return text[:min(len(text), 3000)]
}

func isRightWorld(w impl.World) bool {
	if !isTree(w.Tree) || len(w.Keepers) != len(w.Tree.Up) || len(w.Net) > 300 {
		return false
	}
	for id, k := range w.Keepers {
		for _, n := range []impl.Node{k.Base, k.Node} {
			if n.Id != id || n.Parent != w.Tree.Up[id] || !slices.Equal(n.Kids, kidsOf(w.Tree, id)) {
				return false
			}
		}
		if !isRightKeeper(k) {
			return false
		}
	}
	return true
}

// plainWorldDo does what the document tells of WorldDo, sentence by sentence, with what the chapters before make.
func plainWorldDo(w impl.World, e impl.Event) (impl.World, int) {
	w = cloneWorld(w)
	isNode, isPlace := isIn(e.At, 0, len(w.Keepers)-1), isIn(e.At, 0, len(w.Net)-1)
	switch {
	case e.Kind == impl.EvDo && isNode && e.Op.Kind != impl.OpHear:
		k, code := impl.KeeperDo(w.Keepers[e.At], e.Op)
		w.Keepers[e.At] = k
		if code == impl.Done && e.Op.Kind == impl.OpRelease {
			w.Back = append(w.Back, impl.Given{At: e.At, No: e.Op.No})
		}
		return w, code
	case e.Kind == impl.EvSync && isNode:
		k, said, answered := impl.KeeperSync(w.Keepers[e.At])
		w.Keepers[e.At] = k
		for _, m := range said {
			if len(w.Net) < 300 {
				w.Net = append(w.Net, impl.Frame(m))
			}
		}
		for _, a := range answered {
			w.Told = append(w.Told, impl.Told{At: e.At, Answer: a})
		}
		return w, impl.Done
	case e.Kind == impl.EvCrash && isNode:
		w.Keepers[e.At] = impl.KeeperCrash(w.Keepers[e.At], e.N)
		return w, impl.Done
	case e.Kind == impl.EvFold && isNode:
		w.Keepers[e.At] = impl.KeeperFold(w.Keepers[e.At])
		return w, impl.Done
	case e.Kind == impl.EvDeliver && isPlace:
		m, ok := impl.Unframe(w.Net[e.At])
		w.Net = slices.Delete(w.Net, e.At, e.At+1)
		if !ok || m.To >= len(w.Keepers) {
			return w, impl.Bad
		}
		k, code := impl.KeeperDo(w.Keepers[m.To], impl.Op{Kind: impl.OpHear, Msg: m})
		w.Keepers[m.To] = k
		return w, code
	case e.Kind == impl.EvDrop && isPlace:
		w.Net = slices.Delete(w.Net, e.At, e.At+1)
		return w, impl.Done
	case e.Kind == impl.EvTwice && isPlace:
		if len(w.Net) < 300 {
			w.Net = append(w.Net, w.Net[e.At])
		}
		return w, impl.Done
	case e.Kind == impl.EvSpoil && isPlace:
		if size := len(w.Net[e.At]); size > 0 {
			w.Net[e.At] = w.Net[e.At][:size-1]
		}
		return w, impl.Done
	}
	return w, impl.Bad
}

func plainRun(w impl.World, list []impl.Event) impl.World {
	for _, e := range list {
		w, _ = plainWorldDo(w, e)
	}
	return w
}

// plainCalm leaves out the syncs that tell nothing, as behind them all is as it was.
func plainCalm(w impl.World, rounds int) impl.World {
	for range rounds {
		for at := range w.Keepers {
			w = plainRun(w, []impl.Event{doAt(at, impl.Op{Kind: impl.OpTick}), syncAt(at)})
		}
		for range 1000 {
			if len(w.Net) == 0 {
				break
			}
			w, _ = plainWorldDo(w, impl.Event{Kind: impl.EvDeliver})
			for at, k := range w.Keepers {
				if k.Safe != len(k.Log) || len(k.Wait)+len(k.Asked) > 0 {
					w, _ = plainWorldDo(w, syncAt(at))
				}
			}
		}
	}
	return w
}

func doAt(at int, op impl.Op) impl.Event { return impl.Event{Kind: impl.EvDo, At: at, Op: op} }

func syncAt(at int) impl.Event { return impl.Event{Kind: impl.EvSync, At: at} }

func wantWorld(t *testing.T, what string, got, want impl.World) {
	t.Helper()
	if !sameWorld(got, want) {
		t.Fatalf("%s: it is\n%s\nwant\n%s", what, shownWorld(got), shownWorld(want))
	}
}

// checkEvent holds what WorldDo answers against the plain one, and gives it on.
func checkEvent(t *testing.T, w impl.World, e impl.Event) (impl.World, int) {
	t.Helper()
	want, wantCode := plainWorldDo(w, e)
	got, code := impl.WorldDo(w, e)
	if code != wantCode {
		t.Fatalf("WorldDo of %v is answered %d, want %d, by\n%s", e, code, wantCode, shownWorld(w))
	}
	wantWorld(t, fmt.Sprint("WorldDo of ", e), got, want)
	return got, code
}

// through gives a world on through events that are all answered Done.
func through(t *testing.T, w impl.World, list ...impl.Event) impl.World {
	t.Helper()
	for _, e := range list {
		next, code := checkEvent(t, w, e)
		if code != impl.Done {
			t.Fatalf("%v is answered %d", e, code)
		}
		w = next
	}
	return w
}

func worldOf(t *testing.T, up ...int) impl.World {
	t.Helper()
	w, ok := impl.WorldNew(impl.Tree{Up: up})
	if !ok {
		t.Fatalf("there is no world of %v", up)
	}
	return w
}

func mintOf(key string, n int) impl.Op { return impl.Op{Kind: impl.OpMint, Key: key, N: n} }

func wantOf(key string, n int) impl.Op { return impl.Op{Kind: impl.OpWant, Key: key, N: n} }

func admitOf(no int, key string, n int) impl.Op {
	return impl.Op{Kind: impl.OpAdmit, No: no, Key: key, N: n}
}

func releaseOf(no int) impl.Op { return impl.Op{Kind: impl.OpRelease, No: no} }

// busyWorld has, of nodes 0, 1 below it, 2 and 3 below that and 4 below 0, something in each of its lists.
func busyWorld(t *testing.T) impl.World {
	t.Helper()
	w := through(t, worldOf(t, -1, 0, 1, 1, 0),
		doAt(0, mintOf("a", 50)), doAt(0, mintOf("b", 7)), doAt(1, wantOf("a", 20)), doAt(4, wantOf("b", 3)),
		syncAt(0), syncAt(1), syncAt(4), impl.Event{Kind: impl.EvDeliver}, impl.Event{Kind: impl.EvDeliver}, syncAt(0),
		impl.Event{Kind: impl.EvTwice}, impl.Event{Kind: impl.EvDeliver}, doAt(1, admitOf(1, "a", 5)), doAt(1, admitOf(2, "a", 3)),
		doAt(1, releaseOf(1)), syncAt(1), doAt(2, wantOf("a", 4)), doAt(1, admitOf(3, "a", 1)), doAt(0, impl.Op{Kind: impl.OpTick}), doAt(0, mintOf("c", 1)))
	if len(w.Net) < 3 || len(w.Told) < 4 || len(w.Back) != 1 || len(w.Keepers[1].Asked) != 1 || len(w.Keepers[2].Wait) != 1 || len(w.Keepers[0].Node.Out) != 2 {
		t.Fatalf("it has too little: %s", shownWorld(w))
	}
	return w
}

func payFrame(from, to, id, n int) string {
	return impl.Frame(impl.Msg{Kind: impl.MsgPay, From: from, To: to, Id: id, Low: 1, Key: "a", N: n})
}

func ackFrame(from, to, id int) string {
	return impl.Frame(impl.Msg{Kind: impl.MsgAck, From: from, To: to, Id: id})
}

// frameNo is a frame that can be told from those of other numbers.
func frameNo(i int) string { return ackFrame(1, 0, i+1) }

func framesOf(count int) []string {
	var list []string
	for i := range count {
		list = append(list, frameNo(i))
	}
	return list
}

func TestWorldNew(t *testing.T) {
	for _, tree := range rightTrees() {
		want := impl.World{Tree: tree}
		for id, up := range tree.Up {
			n, _ := impl.NodeNew(id, up, kidsOf(tree, id))
			want.Keepers = append(want.Keepers, impl.Keeper{Base: n, Node: n})
		}
		w, ok := impl.WorldNew(tree)
		if !ok || !isRightWorld(w) || !impl.WorldOk(w) {
			t.Fatalf("WorldNew of %v is %v", tree, ok)
		}
		wantWorld(t, "WorldNew", w, want)
	}
	for name, tree := range wrongTrees() {
		if w, ok := impl.WorldNew(tree); ok || !sameWorld(w, impl.World{}) {
			t.Errorf("of %s there is a world", name)
		}
	}
}

func TestEventsOneByOne(t *testing.T) {
	w := busyWorld(t)
	last := len(w.Net) - 1
	tick := impl.Op{Kind: impl.OpTick}
	for _, c := range []struct {
		name string
		e    impl.Event
		code int
	}{
		{"mint", doAt(0, mintOf("a", 5)), impl.Done},
		{"mint below", doAt(1, mintOf("a", 5)), impl.Refused},
		{"mint of no key", doAt(0, mintOf("A", 5)), impl.Bad},
		{"admit", doAt(1, admitOf(9, "a", 5)), impl.Done},
		{"admit of too much", doAt(1, admitOf(9, "a", 500)), impl.Refused},
		{"release", doAt(1, releaseOf(2)), impl.Done},
		{"release of none", doAt(1, releaseOf(7)), impl.Refused},
		{"want", doAt(3, wantOf("a", 1)), impl.Done},
		{"want on top", doAt(0, wantOf("a", 1)), impl.Refused},
		{"back", doAt(1, impl.Op{Kind: impl.OpBack, Key: "a", N: 2}), impl.Done},
		{"back of nothing", doAt(4, impl.Op{Kind: impl.OpBack, Key: "a", N: 2}), impl.Refused},
		{"tick", doAt(0, tick), impl.Done},
		{"tick with a number", doAt(0, impl.Op{Kind: impl.OpTick, N: 1}), impl.Bad},
		{"no operation", doAt(0, impl.Op{Kind: 7}), impl.Bad},
		{"sync", syncAt(0), impl.Done},
		{"sync of nothing", syncAt(3), impl.Done},
		{"deliver the first", impl.Event{Kind: impl.EvDeliver}, impl.Done},
		{"deliver the last", impl.Event{Kind: impl.EvDeliver, At: last}, impl.Done},
		{"drop the first", impl.Event{Kind: impl.EvDrop}, impl.Done},
		{"drop the last", impl.Event{Kind: impl.EvDrop, At: last}, impl.Done},
		{"twice", impl.Event{Kind: impl.EvTwice, At: 1}, impl.Done},
		{"crash", impl.Event{Kind: impl.EvCrash, At: 0}, impl.Done},
		{"crash with a part", impl.Event{Kind: impl.EvCrash, At: 0, N: 12}, impl.Done},
		{"crash with all", impl.Event{Kind: impl.EvCrash, At: 0, N: 1000}, impl.Done},
		{"crash with less than nothing", impl.Event{Kind: impl.EvCrash, At: 0, N: math.MinInt}, impl.Done},
		{"fold", impl.Event{Kind: impl.EvFold, At: 4}, impl.Done},
		{"fold of what is not safe", impl.Event{Kind: impl.EvFold, At: 0}, impl.Done},
		{"spoil", impl.Event{Kind: impl.EvSpoil, At: last}, impl.Done},
	} {
		got, code := checkEvent(t, w, c.e)
		if code != c.code {
			t.Errorf("%s is answered %d, want %d", c.name, code, c.code)
		}
		if code == impl.Bad && !sameWorld(got, w) {
			t.Errorf("%s is Bad, and changes the world", c.name)
		}
		if !impl.WorldOk(got) {
			t.Errorf("behind %s the world is not right", c.name)
		}
	}
}

// TestWhatAnEventDoesNotAskFor gives events what their kind has no use for.
func TestWhatAnEventDoesNotAskFor(t *testing.T) {
	w := busyWorld(t)
	for kind := range 8 {
		plain := impl.Event{Kind: kind, At: 1, Op: impl.Op{Kind: impl.OpTick}}
		want, wantCode := checkEvent(t, w, plain)
		more := plain
		if kind != impl.EvCrash {
			more.N = 77
		}
		if kind != impl.EvDo {
			more.Op = impl.Op{Kind: impl.OpHear, No: -1, Key: "?"}
		}
		got, code := impl.WorldDo(w, more)
		if code != wantCode || code != impl.Done {
			t.Errorf("%v is answered %d, want %d", more, code, wantCode)
		}
		wantWorld(t, fmt.Sprint(more), got, want)
	}
}

func TestEventsThatAreNone(t *testing.T) {
	w := busyWorld(t)
	tick := impl.Op{Kind: impl.OpTick}
	var list []impl.Event
	for _, kind := range []int{-1, -2, 8, 9, 256, 258, 1 << 32, math.MinInt, math.MaxInt} {
		list = append(list, impl.Event{Kind: kind, Op: tick})
	}
	for kind := range 8 {
		count := len(w.Net)
		if kind == impl.EvDo || kind == impl.EvSync || kind == impl.EvCrash || kind == impl.EvFold {
			count = len(w.Keepers)
		}
		for _, at := range []int{-1, -2, count, count + 1, 300, 1 << 32, math.MinInt, math.MaxInt} {
			list = append(list, impl.Event{Kind: kind, At: at, Op: tick})
		}
	}
	for at := range w.Keepers {
		for _, m := range []impl.Msg{{From: 1, To: 0, Key: "a", N: 1}, {From: 0, To: 1, Kind: impl.MsgAck, Id: 1}, {}} {
			list = append(list, doAt(at, impl.Op{Kind: impl.OpHear, Msg: m}))
		}
	}
	for _, e := range list {
		got, code := checkEvent(t, w, e)
		if code != impl.Bad {
			t.Errorf("%v is answered %d", e, code)
		}
		wantWorld(t, fmt.Sprint(e), got, w)
	}
	empty := worldOf(t, -1)
	for _, kind := range []int{impl.EvDeliver, impl.EvDrop, impl.EvTwice, impl.EvSpoil} {
		if got, code := checkEvent(t, empty, impl.Event{Kind: kind}); code != impl.Bad || !sameWorld(got, empty) {
			t.Errorf("event %d where nothing is on the way is answered %d", kind, code)
		}
	}
}

// TestFramesThatNobodyHears has frames of no message, and frames to or from nodes that are not there: all of them go.
func TestFramesThatNobodyHears(t *testing.T) {
	good := payFrame(0, 1, 1, 5)
	frames := map[string]string{
		"of no byte":             "",
		"of one byte":            "x",
		"of other bytes":         "no frame at all",
		"cut":                    good[:len(good)-1],
		"with a byte more":       good + "x",
		"with another byte":      withByte(good, 6, int(good[6])^1),
		"to a node behind":       payFrame(0, 3, 1, 5),
		"to the last node":       payFrame(1, 29, 1, 5),
		"a want to one not here": impl.Frame(impl.Msg{From: 1, To: 4, Key: "a", N: 1}),
		"an ack to one not here": ackFrame(0, 28, 1),
		"from one not here":      payFrame(29, 1, 1, 5),
		"from no neighbour":      payFrame(0, 2, 1, 5),
	}
	for name, frame := range frames {
		for at := range 3 {
			w := worldOf(t, -1, 0, 1)
			w.Net = slices.Insert([]string{frameNo(0), frameNo(1)}, at, frame)
			got, code := checkEvent(t, w, impl.Event{Kind: impl.EvDeliver, At: at})
			want := w
			want.Net = []string{frameNo(0), frameNo(1)}
			wantWorld(t, "a frame "+name, got, want)
			if code != impl.Bad || !impl.WorldOk(got) {
				t.Errorf("a frame %s is answered %d", name, code)
			}
		}
	}
	// The same frame is heard where its node is there.
	w := worldOf(t, -1, 0, 1, 0)
	w.Net = []string{frames["to a node behind"]}
	if got := through(t, w, impl.Event{Kind: impl.EvDeliver}); len(got.Net) > 0 || impl.Holding(got.Keepers[3].Node.Purses, "a") != 5 {
		t.Errorf("what node 3 heard is %v", got.Keepers[3].Node.Purses)
	}
}

func TestCodesOfWhatIsHeard(t *testing.T) {
	w := through(t, worldOf(t, -1, 0, 1), doAt(0, mintOf("a", 10)))
	for frame, want := range map[string]int{
		payFrame(0, 1, 1, 5):    impl.Done,
		payFrame(0, 1, 1, most): impl.Done,
		payFrame(1, 0, 1, most): impl.Refused,
		ackFrame(0, 1, 9):       impl.Done,
		impl.Frame(impl.Msg{From: 1, To: 0, Key: "a", N: 3}): impl.Done,
		impl.Frame(impl.Msg{From: 0, To: 1, Key: "a", N: 3}): impl.Refused,
		impl.Frame(impl.Msg{From: 2, To: 0, Key: "a", N: 3}): impl.Bad,
	} {
		w.Net = []string{"x", frame}
		got, code := checkEvent(t, w, impl.Event{Kind: impl.EvDeliver, At: 1})
		if code != want || len(got.Net) != 1 || len(got.Told)+len(got.Back) > 0 {
			t.Errorf("%q is answered %d, want %d", frame, code, want)
		}
	}
}

func TestDeliveryToAFullJournal(t *testing.T) {
	w := worldOf(t, -1, 0)
	log, _ := filledLog(impl.MaxJournal - 5)
	k := &w.Keepers[0]
	k.Log, k.Node = log, impl.Replay(k.Base, log)
	w.Net = []string{ackFrame(1, 0, 1), frameNo(5)}
	if !impl.WorldOk(w) {
		t.Fatal("it is right")
	}
	got, code := checkEvent(t, w, impl.Event{Kind: impl.EvDeliver})
	if code != impl.Bad || len(got.Net) != 1 || got.Keepers[0].Log != log {
		t.Errorf("it is answered %d", code)
	}
	got = through(t, got, syncAt(0), impl.Event{Kind: impl.EvFold, At: 0}, impl.Event{Kind: impl.EvDeliver})
	if len(got.Keepers[0].Log) == 0 || len(got.Net) > 0 {
		t.Error("behind a fold there is no room in the journal")
	}
}

// TestAFullNet has just as many frames on the way as there may be, and one, two and three fewer.
func TestAFullNet(t *testing.T) {
	want := func(n int) string { return impl.Frame(impl.Msg{From: 1, To: 0, Key: "a", N: n}) }
	for _, size := range []int{297, 298, 299, 300} {
		w := worldOf(t, -1, 0)
		w.Net = framesOf(size)
		w = through(t, w, doAt(1, wantOf("a", 1)), doAt(1, wantOf("a", 2)), doAt(1, wantOf("a", 3)))
		w, _ = checkEvent(t, w, doAt(1, admitOf(1, "a", 1)))
		got := through(t, w, syncAt(1))
		net := slices.Concat(framesOf(size), []string{want(1), want(2), want(3)})[:300]
		if !slices.Equal(got.Net, net) || len(got.Keepers[1].Wait) > 0 || len(got.Told) != 1 || !impl.WorldOk(got) {
			t.Errorf("with %d frames, behind a sync there are %d", size, len(got.Net))
		}
		twice := through(t, w, impl.Event{Kind: impl.EvTwice, At: 7})
		net = slices.Concat(framesOf(size), []string{frameNo(7)})[:min(300, size+1)]
		if !slices.Equal(twice.Net, net) || !impl.WorldOk(twice) {
			t.Errorf("with %d frames, behind one twice there are %d", size, len(twice.Net))
		}
		// What had no room is lost, and does not come when there is some.
		later := through(t, got, impl.Event{Kind: impl.EvDrop}, syncAt(1))
		if len(later.Net) != 299 {
			t.Errorf("with %d frames, there are %d later", size, len(later.Net))
		}
	}
}

// TestTheNetGoesRound moves what is on the way many times more than there may be frames, within one call and over many.
func TestTheNetGoesRound(t *testing.T) {
	w := worldOf(t, -1, 0)
	w.Net = framesOf(299)
	for _, start := range []uint32{1, 2, 3, 4} {
		c := &chooser{start}
		var list []impl.Event
		for i := range 500 {
			e := impl.Event{Kind: []int{impl.EvDrop, impl.EvTwice, impl.EvTwice, impl.EvDeliver, impl.EvSpoil}[c.below(5)], At: c.below(299)}
			if start > 2 {
				e = impl.Event{Kind: []int{impl.EvTwice, impl.EvDrop}[i%2], At: 0}
			}
			list = append(list, e)
		}
		wantWorld(t, "the net", impl.WorldRun(w, list), plainRun(w, list))
		got := w
		for _, e := range list[:100] {
			got, _ = checkEvent(t, got, e)
		}
	}
}

// TestNetsThatAreTooLong has more frames than there may be: they go, but none comes until there is room.
func TestNetsThatAreTooLong(t *testing.T) {
	for _, size := range []int{301, 302, 350, 601, 1500} {
		w := worldOf(t, -1, 0)
		w.Net = framesOf(size)
		w = through(t, w, doAt(1, wantOf("a", 1)))
		for kind := range 8 {
			for _, at := range []int{0, 1, 150, 298, 299, 300, 301, size - 1, size} {
				got, _ := checkEvent(t, w, impl.Event{Kind: kind, At: at, Op: impl.Op{Kind: impl.OpTick}})
				if goes := (kind == impl.EvDeliver || kind == impl.EvDrop) && at < size; goes != (len(got.Net) == size-1) {
					t.Errorf("of %d frames %d are left behind event %d at %d", size, len(got.Net), kind, at)
				}
			}
		}
		var list []impl.Event
		for i := range 400 {
			list = append(list, impl.Event{Kind: []int{impl.EvDrop, impl.EvTwice, impl.EvDrop, impl.EvSpoil}[i%4], At: i * 37 % 310})
		}
		wantWorld(t, fmt.Sprint(size, " frames"), impl.WorldRun(w, list), plainRun(w, list))
	}
}

func TestFramesThatAreSpoilt(t *testing.T) {
	w := worldOf(t, -1, 0)
	w.Net = []string{"", "x", payFrame(0, 1, 1, 5), ""}
	for at, frame := range w.Net {
		got := through(t, w, impl.Event{Kind: impl.EvSpoil, At: at})
		want := w
		want.Net = slices.Clone(w.Net)
		want.Net[at] = frame[:max(0, len(frame)-1)]
		wantWorld(t, "spoilt", got, want)
	}
	// Spoilt again and again, it is a frame of no byte, and then goes on being one.
	for size := len(w.Net[2]) - 1; size > -3; size-- {
		w = through(t, w, impl.Event{Kind: impl.EvSpoil, At: 2})
		if len(w.Net) != 4 || len(w.Net[2]) != max(size, 0) {
			t.Fatalf("it has %d bytes, want %d", len(w.Net[2]), size)
		}
		if _, code := checkEvent(t, w, impl.Event{Kind: impl.EvDeliver, At: 2}); code != impl.Bad {
			t.Fatalf("spoilt, it is answered %d", code)
		}
	}
	// Of two that were one, one is spoilt.
	w.Net = []string{payFrame(0, 1, 1, 5)}
	w = through(t, w, impl.Event{Kind: impl.EvTwice}, impl.Event{Kind: impl.EvSpoil})
	if w.Net[1] != payFrame(0, 1, 1, 5) || len(w.Net[0]) != len(w.Net[1])-1 {
		t.Errorf("there are %q", w.Net)
	}
}

// TestWhatHasNoFrame has a message waiting that is none: its frame is of no byte.
func TestWhatHasNoFrame(t *testing.T) {
	w := worldOf(t, -1, 0)
	good := impl.Msg{From: 1, To: 0, Key: "a", N: 1}
	w.Keepers[1].Wait = []impl.Msg{good, {Kind: -1}, good}
	if !impl.WorldOk(w) {
		t.Fatal("it is right")
	}
	w = through(t, w, syncAt(1))
	if !slices.Equal(w.Net, []string{impl.Frame(good), "", impl.Frame(good)}) {
		t.Errorf("there are %q", w.Net)
	}
}

func TestWhatGoesBehindBack(t *testing.T) {
	w := worldOf(t, -1, 0, 0)
	w.Back = []impl.Given{{At: 9, No: -9}}
	w = through(t, w, doAt(0, mintOf("a", 20)), doAt(0, admitOf(3, "a", 5)), doAt(0, admitOf(1, "a", 5)))
	want := slices.Clone(w.Back)
	for _, c := range []struct {
		at, no, code int
	}{
		{0, 3, impl.Done}, {0, 2, impl.Refused}, {0, 1, impl.Done}, {1, 1, impl.Refused}, {0, 0, impl.Bad}, {2, -1, impl.Bad},
		// One that was released is released again.
		{0, 3, impl.Done},
		{3, 3, impl.Bad}, {-1, 3, impl.Bad},
	} {
		next, code := checkEvent(t, w, doAt(c.at, releaseOf(c.no)))
		w = next
		if code == impl.Done {
			want = append(want, impl.Given{At: c.at, No: c.no})
		}
		if code != c.code || !slices.Equal(w.Back, want) {
			t.Fatalf("%v is answered %d, and Back is %v, want %v", c, code, w.Back, want)
		}
	}
	for no := 10; no < 41; no++ {
		w, _ = checkEvent(t, w, doAt(0, admitOf(no, "a", 100)))
	}
	if next, code := checkEvent(t, w, doAt(0, releaseOf(3))); code != impl.Stale || !slices.Equal(next.Back, want) {
		t.Errorf("a stale one is answered %d, and Back is %v", code, next.Back)
	}
	// A crash takes the release back, but not what was given.
	crashed := through(t, w, impl.Event{Kind: impl.EvCrash, At: 0})
	if !slices.Equal(crashed.Back, want) || len(crashed.Keepers[0].Node.Purses) > 0 {
		t.Errorf("behind a crash Back is %v", crashed.Back)
	}
	// What is done by others that are Done does not go there.
	others := through(t, w, doAt(1, wantOf("a", 1)), doAt(0, impl.Op{Kind: impl.OpTick}), doAt(0, mintOf("b", 1)), doAt(0, admitOf(50, "b", 1)))
	if !slices.Equal(others.Back, want) {
		t.Errorf("Back is %v", others.Back)
	}
}

func TestWhatGoesBehindTold(t *testing.T) {
	w := worldOf(t, -1, 0, 0)
	old := impl.Told{At: 9, Answer: impl.Answer{Op: impl.Op{Kind: 9}, Code: -9}}
	w.Told = []impl.Told{old}
	for _, e := range []impl.Event{doAt(2, admitOf(1, "a", 5)), doAt(0, mintOf("a", 20)), doAt(0, admitOf(3, "a", 5)), doAt(1, mintOf("a", 1)),
		doAt(0, releaseOf(3)), doAt(0, wantOf("a", 1)), doAt(1, wantOf("a", 1)), doAt(0, releaseOf(4)), doAt(2, releaseOf(1)), doAt(0, mintOf("A", 1))} {
		w, _ = checkEvent(t, w, e)
		if len(w.Told) != 1 {
			t.Fatalf("%v is told ahead of a sync", e)
		}
	}
	told := func(at int, op impl.Op, code int) impl.Told {
		return impl.Told{At: at, Answer: impl.Answer{Op: op, Code: code}}
	}
	want := []impl.Told{old, told(2, admitOf(1, "a", 5), impl.Refused), told(2, releaseOf(1), impl.Refused),
		told(0, mintOf("a", 20), impl.Done), told(0, admitOf(3, "a", 5), impl.Done), told(0, releaseOf(3), impl.Done), told(0, releaseOf(4), impl.Refused),
		told(1, mintOf("a", 1), impl.Refused)}
	got := through(t, w, syncAt(2), syncAt(0), syncAt(0), syncAt(1), syncAt(2))
	if !slices.Equal(got.Told, want) {
		t.Errorf("told are %v, want %v", got.Told, want)
	}
	// What a crash loses is told nobody.
	got = through(t, w, impl.Event{Kind: impl.EvCrash, At: 0, N: 1000}, syncAt(0), syncAt(1))
	if !slices.Equal(got.Told, []impl.Told{old, want[7]}) {
		t.Errorf("behind a crash told are %v", got.Told)
	}
}

func TestRunsOfManyEvents(t *testing.T) {
	w := busyWorld(t)
	mint := doAt(0, mintOf("a", 1))
	for _, size := range []int{0, 1, 2, 499, 500, 501, 502, 1000} {
		got := impl.WorldRun(w, slices.Repeat([]impl.Event{mint}, size))
		minted := 50 + size
		if size > 500 {
			minted = 50
			wantWorld(t, "too many", got, w)
		}
		if impl.PurseOf(got.Keepers[0].Node.Purses, "a").Minted != minted || !impl.WorldOk(got) {
			t.Errorf("behind %d events there are %v", size, got.Keepers[0].Node.Purses)
		}
	}
	// What is Bad does not end a run.
	list := []impl.Event{{Kind: 9}, mint, {Kind: impl.EvDeliver, At: 99}, mint, syncAt(-1), syncAt(0)}
	got := impl.WorldRun(w, list)
	wantWorld(t, "a run with what is none", got, plainRun(w, list))
	if impl.PurseOf(got.Keepers[0].Node.Purses, "a").Minted != 52 || len(got.Told) != len(w.Told)+3 {
		t.Errorf("there are %v", got.Keepers[0].Node.Purses)
	}
}

func TestCalmOfManyRounds(t *testing.T) {
	w := busyWorld(t)
	for _, rounds := range []int{-1, -2, 31, 32, 1000, math.MinInt, math.MaxInt, 0} {
		wantWorld(t, fmt.Sprint(rounds, " rounds"), impl.WorldCalm(w, rounds), w)
	}
	for _, rounds := range []int{1, 2, 3, 29, 30} {
		got := impl.WorldCalm(w, rounds)
		wantWorld(t, fmt.Sprint(rounds, " rounds"), got, plainCalm(w, rounds))
		if len(got.Net) > 0 || !impl.WorldOk(got) {
			t.Errorf("behind %d rounds %d frames are on the way", rounds, len(got.Net))
		}
		ticks := 0
		ops, _ := impl.Read(got.Keepers[3].Log)
		for _, op := range ops {
			if op.Kind == impl.OpTick {
				ticks++
			}
		}
		if ticks != rounds {
			t.Errorf("in %d rounds there are %d ticks", rounds, ticks)
		}
		for at, k := range got.Keepers {
			if len(k.Node.Out) > 0 || k.Safe != len(k.Log) || len(k.Wait)+len(k.Asked) > 0 {
				t.Errorf("behind %d rounds node %d is %s", rounds, at, shownKeeper(k))
			}
		}
	}
}

// TestTheOrderOfACalm asks which message comes first, where two nodes have one for the same other one.
func TestTheOrderOfACalm(t *testing.T) {
	w := through(t, worldOf(t, -1, 0, 0), doAt(0, mintOf("a", 10)))
	w.Net = []string{impl.Frame(impl.Msg{From: 2, To: 0, Key: "a", N: 4}), impl.Frame(impl.Msg{From: 1, To: 0, Key: "a", N: 3}), "x"}
	w.Keepers[2].Wait = []impl.Msg{{From: 2, To: 0, Key: "a", N: 9}}
	got := impl.WorldCalm(w, 1)
	wantWorld(t, "a calm", got, plainCalm(w, 1))
	var texts []string
	ops, _ := impl.Read(got.Keepers[0].Log)
	for _, op := range ops {
		texts = append(texts, impl.OpText(op))
	}
	want := []string{"mint a 10", "tick", "hear want 2 > 0 a 4", "hear want 1 > 0 a 3", "hear want 2 > 0 a 9", "hear ack 2 > 0 1", "hear ack 1 > 0 2", "hear ack 2 > 0 3"}
	if !slices.Equal(texts, want) {
		t.Errorf("node 0 does %q, want %q", texts, want)
	}
	for at, has := range []int{0, 3, 7} {
		if impl.Holding(got.Keepers[at].Node.Purses, "a") != has {
			t.Errorf("node %d has %v", at, got.Keepers[at].Node.Purses)
		}
	}
}

// TestCalmThatEndsAheadOfTheNet has more deliveries than there may be in a round.
func TestCalmThatEndsAheadOfTheNet(t *testing.T) {
	w := worldOf(t, -1, 0)
	for _, c := range []struct{ size, rounds, left int }{
		{999, 1, 0}, {1000, 1, 0}, {1001, 1, 1}, {1500, 1, 500}, {1500, 2, 0}, {2500, 2, 500}, {2001, 2, 1}, {2001, 3, 0},
	} {
		w.Net = framesOf(c.size)
		if got := impl.WorldCalm(w, c.rounds); !slices.Equal(got.Net, w.Net[c.size-c.left:]) {
			t.Errorf("of %d frames %d are left behind %d rounds, want %d", c.size, len(got.Net), c.rounds, c.left)
		}
		// Frames that nobody hears count, too.
		for i := range w.Net {
			w.Net[i] = strconv.Itoa(i)
		}
		got := impl.WorldCalm(w, c.rounds)
		wantWorld(t, fmt.Sprint(c.size, " frames"), got, plainCalm(w, c.rounds))
		if !slices.Equal(got.Net, w.Net[c.size-c.left:]) {
			t.Errorf("of %d frames that are none %d are left behind %d rounds, want %d", c.size, len(got.Net), c.rounds, c.left)
		}
	}
	// So do answers to what was delivered, of which the last one is on the way when the round ends.
	w.Net = nil
	for id := range 1001 {
		w.Net = append(w.Net, payFrame(0, 1, 1+id%40, 1))
	}
	got := impl.WorldCalm(w, 1)
	want := []string{payFrame(0, 1, 1, 1)}
	for id := 701; id < 1000; id++ {
		want = append(want, ackFrame(1, 0, 1+id%40))
	}
	if !slices.Equal(got.Net, want) || impl.Holding(got.Keepers[1].Node.Purses, "a") != 40 {
		t.Errorf("of 1001 payments there are %d frames left, and %v", len(got.Net), got.Keepers[1].Node.Purses)
	}
}

// TestCalmOfAFullNet has all that may be on the way, and each message has an answer which has one, too.
func TestCalmOfAFullNet(t *testing.T) {
	w, _ := impl.WorldNew(chainOf(30))
	for at := range 29 {
		w.Keepers[at].Base.Purses = []impl.Purse{{Key: "a", Free: 1000}}
		w.Keepers[at].Node.Purses = []impl.Purse{{Key: "a", Free: 1000}}
	}
	for i := range 300 {
		w.Net = append(w.Net, impl.Frame(impl.Msg{From: 1 + i%29, To: i % 29, Key: "a", N: 1 + i%3}))
	}
	if !impl.WorldOk(w) {
		t.Fatal("it is right")
	}
	got := impl.WorldCalm(w, 1)
	wantWorld(t, "a calm", got, plainCalm(w, 1))
	held := 0
	for at, k := range got.Keepers {
		held += impl.Holding(k.Node.Purses, "a")
		if len(k.Node.Out) > 0 {
			t.Errorf("node %d was not told that %v were taken", at, k.Node.Out)
		}
	}
	if held != 29000 || len(got.Net) > 0 || !impl.WorldOk(got) {
		t.Errorf("there are %d, and %d frames", held, len(got.Net))
	}
}

// wrongWorlds has worlds that are wrong in one way each, with its name.
func wrongWorlds(t *testing.T) map[string]impl.World {
	t.Helper()
	list := map[string]impl.World{"the zero value": {}}
	change := func(name string, by func(*impl.World)) {
		w := cloneWorld(busyWorld(t))
		by(&w)
		list[name] = w
	}
	for name, tree := range wrongTrees() {
		change("the tree has "+name, func(w *impl.World) { w.Tree = tree })
		list["of as many keepers, the tree has "+name] = worldWithTree(tree)
	}
	for _, tree := range treesOf(5) {
		if !slices.Equal(tree.Up, []int{-1, 0, 1, 1, 0}) {
			change(fmt.Sprint("the tree is ", tree.Up), func(w *impl.World) { w.Tree = tree })
		}
	}
	change("the tree lacks the last node", func(w *impl.World) { w.Tree.Up = w.Tree.Up[:4] })
	change("there is no tree", func(w *impl.World) { w.Tree = impl.Tree{} })
	change("a keeper is missing", func(w *impl.World) { w.Keepers = w.Keepers[:4] })
	change("the first keeper is missing", func(w *impl.World) { w.Keepers = w.Keepers[1:] })
	change("there is no keeper", func(w *impl.World) { w.Keepers = nil })
	change("there is a keeper more", func(w *impl.World) { w.Keepers = append(w.Keepers, cloneKeeper(w.Keepers[4])) })
	next, _ := impl.NodeNew(5, 4, nil)
	change("there is a keeper more, of the next number", func(w *impl.World) { w.Keepers = append(w.Keepers, impl.Keeper{Base: next, Node: next}) })
	change("there is a keeper of nothing more", func(w *impl.World) { w.Keepers = append(w.Keepers, impl.Keeper{}) })
	change("two keepers are each other's", func(w *impl.World) { w.Keepers[2], w.Keepers[3] = w.Keepers[3], w.Keepers[2] })
	change("there is a frame more than there may be", func(w *impl.World) { w.Net = framesOf(301) })
	change("there are many frames more than there may be", func(w *impl.World) { w.Net = framesOf(350) })
	change("of no byte, there is a frame more than there may be", func(w *impl.World) { w.Net = make([]string, 301) })
	for at := range 5 {
		name := fmt.Sprint("keeper ", at, " ")
		change(name+"is of nothing", func(w *impl.World) { w.Keepers[at] = impl.Keeper{} })
		change(name+"has a Log that is none", func(w *impl.World) { w.Keepers[at].Log += "x" })
		change(name+"has more that is safe than there is", func(w *impl.World) { w.Keepers[at].Safe = len(w.Keepers[at].Log) + 1 })
		change(name+"has less than nothing that is safe", func(w *impl.World) { w.Keepers[at].Safe = -1 })
		change(name+"has another Next", func(w *impl.World) { w.Keepers[at].Node.Next++ })
		change(name+"has no Next", func(w *impl.World) { w.Keepers[at].Node.Next = 0 })
		change(name+"has a Base of no Next", func(w *impl.World) { w.Keepers[at].Base.Next = 0 })
		change(name+"has a Node of another number", func(w *impl.World) { w.Keepers[at].Node.Id = 9 })
		change(name+"has a Base of another number", func(w *impl.World) { w.Keepers[at].Base.Id = 9 })
	}
	for name, n := range nodesAtOtherPlaces() {
		change("keeper 1 is right, but has "+name, func(w *impl.World) { w.Keepers[1] = impl.Keeper{Base: n, Node: cloneNode(n)} })
	}
	return list
}

// worldWithTree has a keeper for each parent that stands in a tree, whatever that is.
func worldWithTree(tree impl.Tree) impl.World {
	w := impl.World{Tree: tree}
	for id, up := range tree.Up {
		n, _ := impl.NodeNew(id, up, kidsOf(tree, id))
		w.Keepers = append(w.Keepers, impl.Keeper{Base: n, Node: n})
	}
	return w
}

// nodesAtOtherPlaces has right nodes that are not node 1, below 0 and with the kids 2 and 3.
func nodesAtOtherPlaces() map[string]impl.Node {
	list := map[string]impl.Node{}
	add := func(name string, id, parent int, kids ...int) {
		n, ok := impl.NodeNew(id, parent, kids)
		if !ok {
			panic(name)
		}
		list[name] = n
	}
	add("another number", 4, 0, 2, 3)
	add("another parent", 1, 4, 2, 3)
	add("no parent", 1, -1, 2, 3)
	add("a kid fewer", 1, 0, 2)
	add("no kid", 1, 0)
	add("another kid", 1, 0, 2, 4)
	add("a kid more", 1, 0, 2, 3, 4)
	return list
}

func TestWorldsThatAreWrong(t *testing.T) {
	list := wrongWorlds(t)
	if len(list) < 120 {
		t.Errorf("%d are few", len(list))
	}
	for name, n := range nodesAtOtherPlaces() {
		if !impl.KeeperOk(impl.Keeper{Base: n, Node: n}) {
			t.Errorf("with %s there is no keeper", name)
		}
	}
	for name, w := range list {
		if isRightWorld(w) || impl.WorldOk(w) {
			t.Errorf("where %s, a world is not right", name)
		}
	}
}

func TestWorldsThatAreRight(t *testing.T) {
	for name, by := range map[string]func(*impl.World){
		"as it is":                      func(*impl.World) {},
		"just as many frames as may be": func(w *impl.World) { w.Net = framesOf(300) },
		"frames that are none":          func(w *impl.World) { w.Net = []string{"", "x", payFrame(28, 29, 1, 1)} },
		"no frame":                      func(w *impl.World) { w.Net = []string{} },
		"answers that nobody gave":      func(w *impl.World) { w.Told = slices.Repeat([]impl.Told{{At: -1}}, 2000) },
		"releases that nobody asked":    func(w *impl.World) { w.Back = slices.Repeat([]impl.Given{{At: -1, No: -1}}, 2000) },
		"more waiting than may be":      func(w *impl.World) { w.Keepers[1].Wait = make([]impl.Msg, 500) },
		"kids that are an empty list": func(w *impl.World) {
			w.Keepers[4].Base.Kids, w.Keepers[4].Node.Kids = []int{}, []int{}
		},
		"a keeper folded": func(w *impl.World) { w.Keepers[4] = impl.KeeperFold(w.Keepers[4]) },
	} {
		w := cloneWorld(busyWorld(t))
		by(&w)
		if !isRightWorld(w) || !impl.WorldOk(w) {
			t.Errorf("with %s, it is right", name)
		}
	}
}

// TestEventsInWrongWorlds asks only for what the sentences tell of each event, which ask for no right world.
func TestEventsInWrongWorlds(t *testing.T) {
	var list []impl.Event
	for _, at := range []int{0, 1, 2, 4, 5} {
		for kind := range 8 {
			list = append(list, impl.Event{Kind: kind, At: at, N: 9, Op: impl.Op{Kind: impl.OpTick}})
		}
		list = append(list, doAt(at, mintOf("a", 1)), doAt(at, releaseOf(2)), syncAt(at))
	}
	for name, w := range wrongWorlds(t) {
		for i, e := range list {
			if (i+len(name))%3 == 0 {
				checkEvent(t, w, e)
			}
		}
		wantWorld(t, "where "+name+", a run", impl.WorldRun(w, list), plainRun(w, list))
		wantWorld(t, "where "+name+", a calm", impl.WorldCalm(w, 2), plainCalm(w, 2))
		wantWorld(t, "where "+name+", too long a run", impl.WorldRun(w, make([]impl.Event, 501)), w)
		wantWorld(t, "where "+name+", too long a calm", impl.WorldCalm(w, 31), w)
	}
}

// event chooses what may happen; of a hundred a few are none.
func (c *chooser) event(w impl.World) impl.Event {
	e := impl.Event{Kind: []int{0, 0, 0, 0, 0, 0, 1, 1, 1, 2, 2, 3, 4, 5, 6, 7}[c.below(16)], At: c.below(len(w.Keepers)), N: c.below(60) - 9}
	if e.Kind == impl.EvDo {
		e.Op = c.asked(w.Keepers[e.At].Node)
	}
	if e.Kind == impl.EvDeliver || e.Kind == impl.EvDrop || e.Kind == impl.EvTwice || e.Kind == impl.EvSpoil {
		e.At = c.below(max(1, len(w.Net)))
	}
	if c.below(50) == 0 {
		e.At = []int{-1, len(w.Keepers), len(w.Net), 30}[c.below(4)]
	}
	if c.below(50) == 0 {
		e.Kind = []int{-1, 8, 9}[c.below(3)]
	}
	return e
}

// asked has often what makes nodes say something.
func (c *chooser) asked(n impl.Node) impl.Op {
	if c.below(8) == 0 {
		return c.op(n)
	}
	key, size := "k"+strconv.Itoa(c.below(3)), 1+c.below(30)
	switch kind := c.below(10); {
	case n.Parent < 0 && kind < 2:
		return mintOf(key, 3*size)
	case n.Parent >= 0 && kind < 4:
		return wantOf(key, size)
	case kind < 6:
		return admitOf(1+n.Old/2+c.below(60), key, 1+size/3)
	case kind == 6:
		return releaseOf(1 + n.Old/2 + c.below(60))
	case kind == 7:
		return impl.Op{Kind: impl.OpBack, Key: key, N: size}
	}
	return impl.Op{Kind: impl.OpTick}
}

// TestAWorldStaysRight does what may happen to worlds, and holds them against what the sentences tell.
func TestAWorldStaysRight(t *testing.T) {
	codes := map[[2]int]int{}
	trees := []impl.Tree{chainOf(1), chainOf(2), chainOf(3), starOf(4), chainOf(6), treeBy(6, func(n int) int { return (n - 1) / 2 }), starOf(30)}
	for start := range uint32(35) {
		c := &chooser{start*2654435761 + 5}
		w, _ := impl.WorldNew(trees[start%7])
		begin := w
		var list []impl.Event
		for range 500 {
			e := c.event(w)
			next, code := checkEvent(t, w, e)
			w, list = next, append(list, e)
			codes[[2]int{e.Kind, code}]++
			if !impl.WorldOk(w) || len(w.Net) > 300 {
				t.Fatalf("behind %v it is not right:\n%s", e, shownWorld(w))
			}
		}
		if !isRightWorld(w) {
			t.Fatalf("it is not right:\n%s", shownWorld(w))
		}
		wantWorld(t, "all in one run", impl.WorldRun(begin, list), w)
		calm := impl.WorldCalm(w, 3)
		wantWorld(t, "a calm", calm, plainCalm(w, 3))
		if !impl.WorldOk(calm) || len(calm.Net) > 0 {
			t.Fatalf("behind a calm it is\n%s", shownWorld(calm))
		}
	}
	for kind := range 8 {
		if codes[[2]int{kind, impl.Done}] < 200 || codes[[2]int{kind, impl.Bad}] < 5 {
			t.Errorf("event %d was Done %d times, and %d times Bad", kind, codes[[2]int{kind, impl.Done}], codes[[2]int{kind, impl.Bad}])
		}
	}
	for _, kindAndCode := range [][2]int{{0, impl.Refused}, {0, impl.Stale}, {-1, impl.Bad}, {8, impl.Bad}} {
		if codes[kindAndCode] < 5 {
			t.Errorf("event and code %v came %d times only", kindAndCode, codes[kindAndCode])
		}
	}
}

// TestWhatIsMintedIsSomewhere asks for what the nodes' promises come to in a world: nothing is lost or doubled on the way.
func TestWhatIsMintedIsSomewhere(t *testing.T) {
	paid := 0
	for start := range uint32(60) {
		c := &chooser{start*2654435761 + 7}
		w, _ := impl.WorldNew(treeBy(7, c.below))
		for range 300 {
			w, _ = impl.WorldDo(w, c.event(w))
			for i := range 4 {
				key := "k" + strconv.Itoa(i)
				if minted := impl.PurseOf(w.Keepers[0].Node.Purses, key).Minted; plainTotal(w, key) != minted {
					t.Fatalf("of %s %d were minted, and there are %d", key, minted, plainTotal(w, key))
				}
			}
		}
		w = impl.WorldCalm(w, 3)
		for at, k := range w.Keepers {
			if len(k.Node.Out) > 0 || len(k.Wait) > 0 {
				t.Errorf("behind a calm node %d is %s", at, shownKeeper(k))
			}
			if at > 0 && len(k.Node.Purses) > 0 {
				paid++
			}
		}
	}
	if paid < 50 {
		t.Errorf("%d nodes that were paid are few", paid)
	}
}

// worldCalls has all that makes a world out of one, with a name.
func worldCalls() map[string]func(impl.World) impl.World {
	calls := map[string]func(impl.World) impl.World{
		"calm 0":   func(w impl.World) impl.World { return impl.WorldCalm(w, 0) },
		"calm 2":   func(w impl.World) impl.World { return impl.WorldCalm(w, 2) },
		"calm -1":  func(w impl.World) impl.World { return impl.WorldCalm(w, -1) },
		"long run": func(w impl.World) impl.World { return impl.WorldRun(w, make([]impl.Event, 501)) },
		"no run":   func(w impl.World) impl.World { return impl.WorldRun(w, nil) },
		"new of its tree": func(w impl.World) impl.World {
			made, _ := impl.WorldNew(w.Tree)
			return made
		},
		"ok": func(w impl.World) impl.World {
			impl.WorldOk(w)
			return impl.World{}
		},
	}
	list := []impl.Event{doAt(0, mintOf("new", 1)), doAt(1, admitOf(9, "a", 1)), doAt(1, releaseOf(2)), doAt(1, wantOf("a", 1)), doAt(1, impl.Op{Kind: impl.OpBack, Key: "a", N: 1}),
		doAt(0, impl.Op{Kind: impl.OpTick}), doAt(0, impl.Op{Kind: 7}), {Kind: 9}}
	for at := range 3 {
		for kind := impl.EvSync; kind <= impl.EvSpoil; kind++ {
			list = append(list, impl.Event{Kind: kind, At: at, N: 12})
		}
	}
	for i, e := range list {
		calls[fmt.Sprint("event ", i)] = func(w impl.World) impl.World {
			made, _ := impl.WorldDo(w, e)
			return made
		}
	}
	calls["run"] = func(w impl.World) impl.World { return impl.WorldRun(w, list) }
	return calls
}

// someWorlds has a right one and wrong ones, for what is asked of memory.
func someWorlds(t *testing.T) []impl.World {
	t.Helper()
	busy := busyWorld(t)
	long, torn, fewer, treeless := busy, cloneWorld(busy), busy, busy
	long.Net = framesOf(303)
	torn.Keepers[1].Log += "x"
	fewer.Keepers = busy.Keepers[:2]
	treeless.Tree = impl.Tree{Up: []int{5, 5}}
	return []impl.World{busy, long, torn, fewer, treeless, worldOf(t, -1), {}}
}

// worldTexts has all texts of a world.
func worldTexts(w impl.World) []string {
	list := slices.Clone(w.Net)
	for _, k := range w.Keepers {
		list = append(list, keeperTexts(k, nil, nil)...)
	}
	for _, told := range w.Told {
		list = append(list, told.Answer.Op.Key, told.Answer.Op.Msg.Key)
	}
	return list
}

func TestWorldsShareNoText(t *testing.T) {
	for i, w := range someWorlds(t) {
		w.Told = append(slices.Clone(w.Told), impl.Told{Answer: impl.Answer{Op: impl.Op{Key: strings.Repeat("k", 2), Msg: impl.Msg{Key: strings.Repeat("m", 2)}}}})
		given := worldTexts(w)
		for name, call := range worldCalls() {
			answered := worldTexts(call(w))
			for at, text := range answered {
				for _, other := range slices.Concat(given, answered[:at]) {
					if liesIn(text, other) || liesIn(other, text) {
						t.Fatalf("%s of world %d: the text %.40q is shared", name, i, text)
					}
				}
			}
		}
	}
	w := busyWorld(t)
	for _, op := range []impl.Op{mintOf("a", 1), mintOf("new", 1), admitOf(9, "a", 1), admitOf(9, "none", 1), wantOf("a", 1), {Kind: 7, Key: "a"}} {
		for at := range 3 {
			op.Key = strings.Clone(op.Key)
			made, _ := impl.WorldDo(w, doAt(at, op))
			run := impl.WorldRun(w, []impl.Event{doAt(at, op), syncAt(at)})
			for _, text := range slices.Concat(worldTexts(made), worldTexts(run)) {
				if liesIn(text, op.Key) {
					t.Errorf("%v at %d: its key is shared", op, at)
				}
			}
		}
	}
}

// worldSpoilers write into one list of a world each, and behind it.
func worldSpoilers() []func(impl.World) {
	list := []func(impl.World){
		func(w impl.World) { spoilNumbers(w.Tree.Up) },
		func(w impl.World) {
			for i := range w.Net {
				w.Net[i] = "written"
			}
			_ = append(w.Net, "behind")
		},
		func(w impl.World) {
			for i := range w.Told {
				w.Told[i] = impl.Told{At: -5}
			}
			_ = append(w.Told, impl.Told{At: -6})
		},
		func(w impl.World) {
			for i := range w.Back {
				w.Back[i] = impl.Given{At: -5}
			}
			_ = append(w.Back, impl.Given{At: -6})
		},
	}
	for at := range 5 {
		for _, write := range spoilers()[:4] {
			list = append(list, func(w impl.World) {
				if at < len(w.Keepers) {
					write(w.Keepers[at], nil, nil)
				}
			})
		}
	}
	return list
}

// worldParts shows what each of worldSpoilers writes into.
func worldParts(w impl.World) []string {
	list := []string{fmt.Sprint(w.Tree), fmt.Sprintf("%q", w.Net), fmt.Sprint(w.Told), fmt.Sprint(w.Back)}
	for at := range 5 {
		var k impl.Keeper
		if at < len(w.Keepers) {
			k = w.Keepers[at]
		}
		list = append(list, partsOf(k, nil, nil)[:4]...)
	}
	return list
}

func TestWorldsWriteIntoNothing(t *testing.T) {
	for i, w := range someWorlds(t) {
		given := cloneWorld(w)
		before := worldWithRoom(given)
		for name, call := range worldCalls() {
			made := call(given)
			// Keepers is a list, too, which is written into as a whole.
			for at := range made.Keepers {
				made.Keepers[at] = impl.Keeper{Safe: -5}
			}
			_ = append(made.Keepers, impl.Keeper{Safe: -6})
			if worldWithRoom(given) != before {
				t.Fatalf("%s of world %d, or what its Keepers share, writes into it", name, i)
			}
			want := worldParts(call(given))
			for which, write := range worldSpoilers() {
				made := call(given)
				write(made)
				if worldWithRoom(given) != before {
					t.Fatalf("%s of world %d, or what part %d of its answer shares, writes into it", name, i, which)
				}
				for other, text := range worldParts(made) {
					if other != which && text != want[other] {
						t.Fatalf("%s of world %d: parts %d and %d of its answer share memory", name, i, which, other)
					}
				}
			}
		}
	}
	list := append([]impl.Event{doAt(0, mintOf("a", 1)), syncAt(0), {Kind: impl.EvCrash}}, impl.Event{Kind: 77}, impl.Event{Kind: 78})
	kept := slices.Clone(list)
	impl.WorldRun(busyWorld(t), list[:3])
	if !slices.Equal(list, kept) {
		t.Error("WorldRun writes into its events, or behind them")
	}
}

// TestGreatWorldsAnswerSoon has 30 nodes with long journals: none is gone through anew for each event.
func TestGreatWorldsAnswerSoon(t *testing.T) {
	w, _ := impl.WorldNew(starOf(30))
	log, _ := filledLog(50000)
	for at := range w.Keepers {
		k := &w.Keepers[at]
		k.Log, k.Node = log, impl.Replay(k.Base, log)
	}
	w.Net = slices.Repeat([]string{payFrame(0, 1, 1, 1)}, 300)
	if !impl.WorldOk(w) {
		t.Fatal("it is right")
	}
	got := impl.WorldCalm(w, 30)
	if len(got.Net) > 0 || !impl.WorldOk(got) {
		t.Errorf("%d frames are on the way", len(got.Net))
	}
	// Nor is a wrong one.
	for at := range w.Keepers {
		w.Keepers[at].Node.Next++
	}
	if got := impl.WorldCalm(w, 30); len(got.Net) > 0 {
		t.Errorf("%d frames are on the way", len(got.Net))
	}
}
