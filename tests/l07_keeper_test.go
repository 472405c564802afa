package tests

import (
	"fmt"
	"math"
	"slices"
	"strconv"
	"strings"
	"testing"
	"unsafe"

	"loop.example/g00264/impl"
)

// cloneKeeper lays a keeper into memory of its own, with spare room behind each list.
func cloneKeeper(k impl.Keeper) impl.Keeper {
	k.Base, k.Node = cloneNode(k.Base), cloneNode(k.Node)
	k.Wait = append(slices.Clone(k.Wait), impl.Msg{Key: "room"}, impl.Msg{Key: "roomier"})[:len(k.Wait)]
	k.Asked = append(slices.Clone(k.Asked), impl.Answer{Code: 77}, impl.Answer{Code: 78})[:len(k.Asked)]
	return k
}

// keeperWithRoom shows a keeper with all that lies behind its lists.
func keeperWithRoom(k impl.Keeper) string {
	return withRoom(k.Base) + withRoom(k.Node) + fmt.Sprintf("%q %d %v %v", k.Log, k.Safe, k.Wait[:cap(k.Wait)], k.Asked[:cap(k.Asked)])
}

func sameKeeper(a, b impl.Keeper) bool {
	return sameNode(a.Base, b.Base) && sameNode(a.Node, b.Node) && a.Log == b.Log && a.Safe == b.Safe &&
		slices.Equal(a.Wait, b.Wait) && slices.Equal(a.Asked, b.Asked)
}

// endsOf tells the operations of a log and behind which byte each one ends, with 0 ahead of them.
func endsOf(log string) ([]impl.Op, []int) {
	ops, _ := impl.Read(log)
	ends := []int{0}
	for i, op := range ops {
		ends = append(ends, ends[i]+len(frameOf(opBytes(op))))
	}
	return ops, ends
}

// plainly is what operations make of a node, as the document tells it.
func plainly(n impl.Node, ops []impl.Op) impl.Node {
	p := plainNode{Node: cloneNode(n)}
	for _, op := range ops {
		p.do(op)
	}
	return p.Node
}

func isRightKeeper(k impl.Keeper) bool {
	if !isRightNode(k.Base) || !isRightNode(k.Node) || !isIn(k.Safe, 0, len(k.Log)) {
		return false
	}
	ops, ends := endsOf(k.Log)
	return ends[len(ops)] == len(k.Log) && sameNode(plainly(k.Base, ops), k.Node)
}

// plainKeeperDo does what the document tells of KeeperDo, sentence by sentence.
func plainKeeperDo(k impl.Keeper, op impl.Op) (impl.Keeper, int) {
	p := plainNode{Node: cloneNode(k.Node)}
	code := p.do(op)
	if code == impl.Bad || !isRightKeeper(k) || len(k.Log)+len(frameOf(opBytes(op))) > 60000 {
		return k, impl.Bad
	}
	k.Node, k.Log = p.Node, k.Log+frameOf(opBytes(op))
	k.Wait = slices.Concat(k.Wait, p.said)
	if op.Kind <= 2 {
		k.Asked = slices.Concat(k.Asked, []impl.Answer{{Op: op, Code: code}})
	}
	k.Wait, k.Asked = k.Wait[:min(400, len(k.Wait))], k.Asked[:min(400, len(k.Asked))]
	return k, code
}

// plainCrash wants a right Base, and a log of at most MaxJournal bytes.
func plainCrash(k impl.Keeper, keep int) impl.Keeper {
	ops, ends := endsOf(k.Log)
	whole := 0
	for i, end := range ends {
		if end <= k.Safe || keep > 0 && end-k.Safe <= keep {
			whole = i
		}
	}
	end := ends[whole]
	return impl.Keeper{Base: k.Base, Node: plainly(k.Base, ops[:whole]), Log: k.Log[:end], Safe: end}
}

func shownKeeper(k impl.Keeper) string {
	return fmt.Sprintf("base %s\nnode %s\nlog %.300q safe %d wait %d %.300v asked %d %.300v", shown(k.Base), shown(k.Node), k.Log, k.Safe, len(k.Wait), k.Wait, len(k.Asked), k.Asked)
}

func wantKeeper(t *testing.T, what string, got, want impl.Keeper) {
	t.Helper()
	if !sameKeeper(got, want) {
		t.Fatalf("%s: it is\n%s\nwant\n%s", what, shownKeeper(got), shownKeeper(want))
	}
	if impl.KeeperOk(got) != isRightKeeper(got) {
		t.Fatalf("%s: KeeperOk is %v of\n%s", what, impl.KeeperOk(got), shownKeeper(got))
	}
}

// checkKeeperDo holds what KeeperDo answers against the plain one, and gives it on.
func checkKeeperDo(t *testing.T, k impl.Keeper, op impl.Op) (impl.Keeper, int) {
	t.Helper()
	want, wantCode := plainKeeperDo(k, op)
	got, code := impl.KeeperDo(k, op)
	if code != wantCode {
		t.Fatalf("KeeperDo of %s is answered %d, want %d, by\n%s", shown(op), code, wantCode, shownKeeper(k))
	}
	wantKeeper(t, "KeeperDo of "+shown(op), got, want)
	return got, code
}

func checkSync(t *testing.T, k impl.Keeper) (impl.Keeper, []impl.Msg, []impl.Answer) {
	t.Helper()
	want, wantSaid, wantAsked := k, []impl.Msg(nil), []impl.Answer(nil)
	if isRightKeeper(k) {
		wantSaid, wantAsked = k.Wait, k.Asked
		want.Safe, want.Wait, want.Asked = len(k.Log), nil, nil
	}
	got, said, asked := impl.KeeperSync(k)
	wantKeeper(t, "KeeperSync", got, want)
	if !slices.Equal(said, wantSaid) || !slices.Equal(asked, wantAsked) {
		t.Fatalf("KeeperSync tells %v, %v of\n%s", said, asked, shownKeeper(k))
	}
	return got, said, asked
}

func checkCrash(t *testing.T, k impl.Keeper, keep int) impl.Keeper {
	t.Helper()
	got := impl.KeeperCrash(k, keep)
	wantKeeper(t, "KeeperCrash with "+strconv.Itoa(keep), got, plainCrash(k, keep))
	return got
}

func checkFold(t *testing.T, k impl.Keeper) impl.Keeper {
	t.Helper()
	want := k
	if isRightKeeper(k) && k.Safe == len(k.Log) {
		want.Base, want.Log, want.Safe = k.Node, "", 0
	}
	got := impl.KeeperFold(k)
	wantKeeper(t, "KeeperFold", got, want)
	return got
}

// keptOver is a keeper of a node with which operations were done.
func keptOver(t *testing.T, n impl.Node, ops []impl.Op) impl.Keeper {
	t.Helper()
	k, ok := impl.KeeperNew(n)
	if !ok {
		t.Fatalf("there is no keeper of %s", shown(n))
	}
	for _, op := range ops {
		k, _ = checkKeeperDo(t, k, op)
	}
	return k
}

// halfSafe is a keeper of node 5 with all that a keeper may have; of its journal a part is safe.
func halfSafe(t *testing.T) impl.Keeper {
	t.Helper()
	ops := slices.DeleteFunc(fewOps(), func(op impl.Op) bool { return op.Kind == impl.OpHear && op.Msg.Kind == impl.MsgAck })
	k := keptOver(t, inTheMiddle(), ops[:5])
	k, _, _ = checkSync(t, k)
	for _, op := range ops[5:] {
		k, _ = checkKeeperDo(t, k, op)
	}
	if k.Safe == 0 || k.Safe == len(k.Log) || len(k.Wait) < 5 || len(k.Asked) != 1 {
		t.Fatalf("it has too little: %s", shownKeeper(k))
	}
	return k
}

// wrongKeepers has keepers that are wrong in one way each, with its name.
func wrongKeepers(t *testing.T) map[string]impl.Keeper {
	t.Helper()
	list := map[string]impl.Keeper{"the zero value": {}}
	change := func(name string, by func(*impl.Keeper)) {
		k := cloneKeeper(halfSafe(t))
		by(&k)
		list[name] = k
	}
	for i, n := range wrongNodes() {
		list[fmt.Sprint("both are wrong node ", i)] = impl.Keeper{Base: n, Node: cloneNode(n)}
		change(fmt.Sprint("Base is wrong node ", i), func(k *impl.Keeper) { k.Base = n })
		change(fmt.Sprint("Node is wrong node ", i), func(k *impl.Keeper) { k.Node = n })
	}
	for i, n := range rightNodes() {
		change(fmt.Sprint("Node is another one, ", i), func(k *impl.Keeper) { k.Node = n })
		if !sameNode(n, inTheMiddle()) {
			change(fmt.Sprint("Base is another one, ", i), func(k *impl.Keeper) { k.Base = n })
		}
	}
	for name, by := range otherNodes() {
		change("Node has another "+name, func(k *impl.Keeper) { by(&k.Node) })
	}
	for _, safe := range []int{-1, -2, math.MinInt} {
		change(fmt.Sprint("Safe is ", safe), func(k *impl.Keeper) { k.Safe = safe })
	}
	for _, more := range []int{1, 2, 1000} {
		change(fmt.Sprint("Safe is beyond the end by ", more), func(k *impl.Keeper) { k.Safe = len(k.Log) + more })
	}
	change("Safe is beyond all", func(k *impl.Keeper) { k.Safe = math.MaxInt })
	change("Log ends with a part", func(k *impl.Keeper) { k.Log = k.Log + k.Log[:9] })
	change("Log lacks a byte", func(k *impl.Keeper) { k.Log = k.Log[:len(k.Log)-1] })
	change("Log has a byte more", func(k *impl.Keeper) { k.Log += "x" })
	change("Log begins with a byte more", func(k *impl.Keeper) { k.Log = "x" + k.Log })
	change("Log is empty", func(k *impl.Keeper) { k.Log, k.Safe = "", 0 })
	change("Log lacks an operation", func(k *impl.Keeper) { k.Log = k.Log[:k.Safe] })
	change("Log has an operation more", func(k *impl.Keeper) {
		k.Log += frameOf(opBytes(impl.Op{Kind: impl.OpAdmit, No: 999, Key: "none", N: 1}))
	})
	change("Log has more bytes than there may be", func(k *impl.Keeper) {
		tick := frameOf(opBytes(impl.Op{Kind: impl.OpTick}))
		k.Log += strings.Repeat(tick, impl.MaxJournal/len(tick))
	})
	return list
}

// otherNodes has changes of node 5 behind which it is right, but another one.
func otherNodes() map[string]func(*impl.Node) {
	return map[string]func(*impl.Node){
		"Id":              func(n *impl.Node) { n.Id = 6 },
		"Parent":          func(n *impl.Node) { n.Parent, n.Seen[1].From, n.Out[1].To, n.Out[4].To = 3, 3, 3, 3 },
		"kid":             func(n *impl.Node) { n.Kids[0], n.Seen[0].From, n.Out[5].To = 0, 0, 0 },
		"Next":            func(n *impl.Node) { n.Next++ },
		"Minted":          func(n *impl.Node) { n.Purses[0].Minted++ },
		"Free":            func(n *impl.Node) { n.Purses[0].Free++ },
		"Spent":           func(n *impl.Node) { n.Purses[0].Spent++ },
		"key of a purse":  func(n *impl.Node) { n.Purses[1].Key = "b" },
		"purse more":      func(n *impl.Node) { n.Purses = append(n.Purses, impl.Purse{Key: "zz"}) },
		"purse fewer":     func(n *impl.Node) { n.Purses = n.Purses[1:] },
		"Id of Out":       func(n *impl.Node) { n.Out[0].Id-- },
		"To of Out":       func(n *impl.Node) { n.Out[0].To = 29 },
		"Key of Out":      func(n *impl.Node) { n.Out[0].Key = "b" },
		"N of Out":        func(n *impl.Node) { n.Out[0].N++ },
		"Out fewer":       func(n *impl.Node) { n.Out = n.Out[1:] },
		"Low":             func(n *impl.Node) { n.Seen[0].Low++ },
		"Id that is seen": func(n *impl.Node) { n.Seen[2].Ids[0]++ },
		"Id seen more":    func(n *impl.Node) { n.Seen[0].Ids = []int{4} },
		"Id seen fewer":   func(n *impl.Node) { n.Seen[2].Ids = nil },
		"Old":             func(n *impl.Node) { n.Old-- },
		"No":              func(n *impl.Node) { n.Reqs[1].No-- },
		"Key of a Req":    func(n *impl.Node) { n.Reqs[0].Key = "b" },
		"N of a Req":      func(n *impl.Node) { n.Reqs[0].N++ },
		"State":           func(n *impl.Node) { n.Reqs[0].State = 2 },
		"Req fewer":       func(n *impl.Node) { n.Reqs = n.Reqs[:len(n.Reqs)-1] },
	}
}

func TestKeeperNew(t *testing.T) {
	for _, n := range rightNodes() {
		k, ok := impl.KeeperNew(n)
		wantKeeper(t, "KeeperNew", k, impl.Keeper{Base: n, Node: n})
		if !ok || !impl.KeeperOk(k) {
			t.Errorf("KeeperNew of %s is %v", shown(n), ok)
		}
	}
	for _, n := range wrongNodes() {
		k, ok := impl.KeeperNew(n)
		if ok || !sameKeeper(k, impl.Keeper{}) {
			t.Errorf("KeeperNew of %s is %v, %v", shown(n), shownKeeper(k), ok)
		}
	}
}

func TestKeepersThatAreRight(t *testing.T) {
	k := halfSafe(t)
	for safe := range len(k.Log) + 1 {
		k.Safe = safe
		if !isRightKeeper(k) || !impl.KeeperOk(k) {
			t.Fatalf("with %d bytes safe it is right", safe)
		}
	}
	// What waits is not asked for.
	k.Wait, k.Asked = []impl.Msg{{Kind: -1}}, []impl.Answer{{Code: -1}}
	if !impl.KeeperOk(k) {
		t.Error("what waits makes it wrong")
	}
	k.Wait, k.Asked = nil, nil
	if !impl.KeeperOk(k) {
		t.Error("without what waits it is wrong")
	}
	fresh, _ := impl.NodeNew(3, -1, nil)
	empty := fresh
	empty.Kids, empty.Purses, empty.Out, empty.Seen, empty.Reqs = []int{}, []impl.Purse{}, []impl.Sent{}, []impl.Seen{}, []impl.Req{}
	if !impl.KeeperOk(impl.Keeper{Base: fresh, Node: empty}) || !impl.KeeperOk(impl.Keeper{Base: empty, Node: fresh, Wait: []impl.Msg{}}) {
		t.Error("an empty list and none are not the same")
	}
	// In a journal there may stand what is Bad for the node.
	far := frameOf(opBytes(impl.Op{Kind: impl.OpHear, Msg: impl.Msg{From: 11, To: 12, Key: "a", N: 1}}))
	if !impl.KeeperOk(impl.Keeper{Base: fresh, Node: fresh, Log: far, Safe: 3}) {
		t.Error("a journal with what is not for the node is wrong")
	}
}

func TestKeepersThatAreWrong(t *testing.T) {
	for name, by := range otherNodes() {
		k := cloneKeeper(halfSafe(t))
		by(&k.Node)
		// Were it no node at all, it would not be asked whether it is the one that the journal makes.
		if !isRightNode(k.Node) {
			t.Errorf("with another %s it is no node", name)
		}
	}
	list := wrongKeepers(t)
	if len(list) < 300 {
		t.Errorf("%d are few", len(list))
	}
	ops := []impl.Op{{Kind: impl.OpTick}, {Kind: impl.OpAdmit, No: 11, Key: "a", N: 1}, {Kind: impl.OpWant, Key: "a", N: 1}, {Kind: 7}}
	for name, k := range list {
		if isRightKeeper(k) || impl.KeeperOk(k) {
			t.Errorf("where %s, a keeper is not right", name)
		}
		for _, op := range ops {
			if got, code := impl.KeeperDo(k, op); code != impl.Bad || !sameKeeper(got, k) {
				t.Errorf("where %s, KeeperDo of %v is %d", name, op, code)
			}
		}
		if got, said, asked := impl.KeeperSync(k); !sameKeeper(got, k) || len(said)+len(asked) > 0 {
			t.Errorf("where %s, KeeperSync tells %v, %v", name, said, asked)
		}
		if got := impl.KeeperFold(k); !sameKeeper(got, k) {
			t.Errorf("where %s, KeeperFold changes it", name)
		}
		k.Safe = len(k.Log)
		if got := impl.KeeperFold(k); !isRightKeeper(k) && !sameKeeper(got, k) {
			t.Errorf("where %s and all is safe, KeeperFold changes it", name)
		}
	}
}

func TestKeeperOperationsOneByOne(t *testing.T) {
	hear := func(m impl.Msg) impl.Op { return impl.Op{Kind: impl.OpHear, Msg: m} }
	pays := impl.Pays(inTheMiddle())
	for _, c := range []struct {
		name  string
		from  impl.Node
		op    impl.Op
		code  int
		said  []impl.Msg
		asked bool
	}{
		{"mint", onTop(), impl.Op{Kind: impl.OpMint, Key: "a", N: 6}, impl.Done, nil, true},
		{"mint beyond", onTop(), impl.Op{Kind: impl.OpMint, Key: "b", N: 1}, impl.Refused, nil, true},
		{"mint below another one", inTheMiddle(), impl.Op{Kind: impl.OpMint, Key: "a", N: 6}, impl.Refused, nil, true},
		{"mint of nothing", onTop(), impl.Op{Kind: impl.OpMint, Key: "a"}, impl.Bad, nil, false},
		{"admit", inTheMiddle(), impl.Op{Kind: impl.OpAdmit, No: 6, Key: "a", N: 10}, impl.Done, nil, true},
		{"admit again", inTheMiddle(), impl.Op{Kind: impl.OpAdmit, No: 3, Key: "a", N: 4}, impl.Done, nil, true},
		{"admit too much", inTheMiddle(), impl.Op{Kind: impl.OpAdmit, No: 6, Key: "a", N: 11}, impl.Refused, nil, true},
		{"admit at Old", inTheMiddle(), impl.Op{Kind: impl.OpAdmit, No: 2, Key: "a", N: 1}, impl.Stale, nil, true},
		{"admit of no key", inTheMiddle(), impl.Op{Kind: impl.OpAdmit, No: 6, Key: "A", N: 1}, impl.Bad, nil, false},
		{"release", inTheMiddle(), impl.Op{Kind: impl.OpRelease, No: 3}, impl.Done, nil, true},
		{"release again", inTheMiddle(), impl.Op{Kind: impl.OpRelease, No: 8}, impl.Done, nil, true},
		{"release of none", inTheMiddle(), impl.Op{Kind: impl.OpRelease, No: 4}, impl.Refused, nil, true},
		{"release at Old", inTheMiddle(), impl.Op{Kind: impl.OpRelease, No: 2}, impl.Stale, nil, true},
		{"release of no number", inTheMiddle(), impl.Op{Kind: impl.OpRelease}, impl.Bad, nil, false},
		{"want", inTheMiddle(), impl.Op{Kind: impl.OpWant, Key: "a", N: 7}, impl.Done, []impl.Msg{{From: 5, To: 2, Key: "a", N: 7}}, false},
		{"want on top", onTop(), impl.Op{Kind: impl.OpWant, Key: "a", N: 7}, impl.Refused, nil, false},
		{"want with a number", inTheMiddle(), impl.Op{Kind: impl.OpWant, No: 1, Key: "a", N: 7}, impl.Bad, nil, false},
		{"back", inTheMiddle(), impl.Op{Kind: impl.OpBack, Key: "c", N: 2}, impl.Done,
			[]impl.Msg{{Kind: impl.MsgPay, From: 5, To: 2, Id: 12, Low: 6, Key: "c", N: 2}}, false},
		{"back of nothing", inTheMiddle(), impl.Op{Kind: impl.OpBack, Key: "f", N: 2}, impl.Refused, nil, false},
		{"tick", inTheMiddle(), impl.Op{Kind: impl.OpTick}, impl.Done, pays, false},
		{"tick with a number", inTheMiddle(), impl.Op{Kind: impl.OpTick, N: 1}, impl.Bad, nil, false},
		{"a kid's want", inTheMiddle(), hear(impl.Msg{From: 1, To: 5, Key: "a", N: 11}), impl.Done,
			[]impl.Msg{{Kind: impl.MsgPay, From: 5, To: 1, Id: 12, Low: 12, Key: "a", N: 10}}, false},
		{"a kid's want of nothing", inTheMiddle(), hear(impl.Msg{From: 1, To: 5, Key: "f", N: 11}), impl.Done, nil, false},
		{"the parent's want", inTheMiddle(), hear(impl.Msg{From: 2, To: 5, Key: "a", N: 11}), impl.Refused, nil, false},
		{"another one's want", inTheMiddle(), hear(impl.Msg{From: 3, To: 5, Key: "a", N: 11}), impl.Bad, nil, false},
		{"a want to another one", inTheMiddle(), hear(impl.Msg{From: 1, To: 2, Key: "a", N: 11}), impl.Bad, nil, false},
		{"pay", inTheMiddle(), hear(impl.Msg{Kind: impl.MsgPay, From: 2, To: 5, Id: 7, Low: 2, Key: "b", N: 8}), impl.Done,
			[]impl.Msg{{Kind: impl.MsgAck, From: 5, To: 2, Id: 7}}, false},
		{"pay again", inTheMiddle(), hear(impl.Msg{Kind: impl.MsgPay, From: 2, To: 5, Id: 9, Low: 2, Key: "b", N: 8}), impl.Done,
			[]impl.Msg{{Kind: impl.MsgAck, From: 5, To: 2, Id: 9}}, false},
		{"pay beyond", inTheMiddle(), hear(impl.Msg{Kind: impl.MsgPay, From: 2, To: 5, Id: 7, Low: 4, Key: "a", N: most}), impl.Refused, nil, false},
		{"ack", inTheMiddle(), hear(impl.Msg{Kind: impl.MsgAck, From: 7, To: 5, Id: 4}), impl.Done, nil, false},
		{"no operation", inTheMiddle(), impl.Op{Kind: 7}, impl.Bad, nil, false},
	} {
		// What comes goes behind what waits already.
		waits := []impl.Msg{{Kind: impl.MsgAck, From: 5, To: 2, Id: 77}, {From: 5, To: 2, Key: "old", N: 1}}
		asks := []impl.Answer{{Op: impl.Op{Kind: impl.OpMint, Key: "old", N: 1}, Code: impl.Refused}}
		k := impl.Keeper{Base: c.from, Node: c.from, Wait: waits, Asked: asks}
		want := k
		if c.code != impl.Bad {
			want.Node, _, _ = impl.NodeDo(c.from, c.op)
			want.Log = frameOf(opBytes(c.op))
			want.Wait = slices.Concat(waits, c.said)
		}
		if c.asked {
			want.Asked = slices.Concat(asks, []impl.Answer{{Op: c.op, Code: c.code}})
		}
		got, code := checkKeeperDo(t, k, c.op)
		if code != c.code {
			t.Errorf("%s is answered %d, want %d", c.name, code, c.code)
		}
		wantKeeper(t, c.name, got, want)
		_, said, asked := checkSync(t, got)
		if !slices.Equal(said, want.Wait) || !slices.Equal(asked, want.Asked) {
			t.Errorf("%s: %v and %v are told", c.name, said, asked)
		}
	}
}

func TestKeeperOperationsOfRightNodes(t *testing.T) {
	codes, waits := map[[2]int]int{}, [7]int{}
	for i, n := range rightNodes() {
		k, _ := impl.KeeperNew(n)
		for at, op := range someOps(n) {
			if (at+i)%5 != 0 {
				continue
			}
			got, code := checkKeeperDo(t, k, op)
			codes[[2]int{op.Kind, code}]++
			if code != impl.Bad {
				waits[op.Kind] += len(got.Wait)
			}
		}
	}
	for kind := range 7 {
		says := kind >= impl.OpWant
		if codes[[2]int{kind, impl.Done}] < 5 || says != (waits[kind] > 0) {
			t.Errorf("operation %d was done %d times, and %d wait to be said", kind, codes[[2]int{kind, impl.Done}], waits[kind])
		}
	}
	for _, kindAndCode := range [][2]int{{0, 1}, {1, 1}, {2, 1}, {3, 1}, {4, 1}, {6, 1}, {1, 2}, {2, 2}, {0, 3}, {1, 3}, {2, 3}, {3, 3}, {4, 3}, {6, 3}} {
		if codes[kindAndCode] < 2 {
			t.Errorf("operation and code %v came %d times only", kindAndCode, codes[kindAndCode])
		}
	}
}

func TestNothingIsToldAheadOfSync(t *testing.T) {
	n, _ := impl.NodeNew(0, -1, []int{1})
	ops := []impl.Op{{Kind: impl.OpMint, Key: "a", N: 10}, {Kind: impl.OpHear, Msg: impl.Msg{From: 1, To: 0, Key: "a", N: 4}},
		{Kind: impl.OpAdmit, No: 1, Key: "a", N: 6}, {Kind: impl.OpTick}, {Kind: impl.OpAdmit, No: 2, Key: "a", N: 1}}
	pay := impl.Msg{Kind: impl.MsgPay, From: 0, To: 1, Id: 1, Low: 1, Key: "a", N: 4}
	answers := []impl.Answer{{Op: ops[0], Code: impl.Done}, {Op: ops[2], Code: impl.Done}, {Op: ops[4], Code: impl.Refused}}
	k := keptOver(t, n, ops)
	if k.Safe != 0 || !slices.Equal(k.Wait, []impl.Msg{pay, pay}) || !slices.Equal(k.Asked, answers) {
		t.Fatalf("what waits is %v, %v", k.Wait, k.Asked)
	}
	k, said, asked := checkSync(t, k)
	if k.Safe != len(k.Log) || !slices.Equal(said, []impl.Msg{pay, pay}) || !slices.Equal(asked, answers) || len(k.Wait)+len(k.Asked) > 0 {
		t.Fatalf("what is told is %v, %v", said, asked)
	}
	again, said, asked := checkSync(t, k)
	if len(said)+len(asked) > 0 || !sameKeeper(again, k) {
		t.Errorf("told once more are %v, %v", said, asked)
	}
	k, _ = checkKeeperDo(t, k, impl.Op{Kind: impl.OpRelease, No: 1})
	k, _ = checkKeeperDo(t, k, impl.Op{Kind: impl.OpRelease, No: 2})
	k, said, asked = checkSync(t, k)
	answers = []impl.Answer{{Op: impl.Op{Kind: impl.OpRelease, No: 1}, Code: impl.Done}, {Op: impl.Op{Kind: impl.OpRelease, No: 2}, Code: impl.Refused}}
	if len(said) > 0 || !slices.Equal(asked, answers) || k.Safe != len(k.Log) {
		t.Errorf("told behind that are %v, %v", said, asked)
	}
}

// TestWhatWaitsHasALimit fills both lists to their limit, from just below it and with many at a time.
func TestWhatWaitsHasALimit(t *testing.T) {
	n := inTheMiddle()
	n.Next, n.Out = 500, sentTo(7, "a", 1, numbersFrom(100, 39)...)
	k, _ := impl.KeeperNew(n)
	want := []int{39, 78, 117, 156, 195, 234, 273, 312, 351, 390, 400, 400}
	for _, size := range want {
		k, _ = checkKeeperDo(t, k, impl.Op{Kind: impl.OpTick})
		if len(k.Wait) != size {
			t.Fatalf("%d wait to be said, want %d", len(k.Wait), size)
		}
	}
	pays := impl.Pays(n)
	for i, m := range k.Wait {
		if m != pays[i%39] {
			t.Fatalf("number %d that waits is %v", i, m)
		}
	}
	for i := range 403 {
		op := impl.Op{Kind: impl.OpAdmit, No: 1000 + i, Key: "none", N: 1 + i}
		next, code := impl.KeeperDo(k, op)
		k = next
		if code != impl.Refused || len(k.Asked) != min(400, i+1) || len(k.Wait) != 400 || i < 400 && k.Asked[i].Op != op {
			t.Fatalf("request %d is answered %d, and %d wait for an answer", i, code, len(k.Asked))
		}
	}
	if ops, _ := impl.Read(k.Log); len(ops) != 12+403 || k.Node.Reqs[29].No != 1402 {
		t.Errorf("%d operations were done", len(ops))
	}
	k, said, asked := checkSync(t, k)
	if len(said) != 400 || len(asked) != 400 || asked[399].Op.No != 1399 {
		t.Errorf("%d are said and %d answered", len(said), len(asked))
	}
	k, _ = checkKeeperDo(t, k, impl.Op{Kind: impl.OpTick})
	k, _ = checkKeeperDo(t, k, impl.Op{Kind: impl.OpRelease, No: 1402})
	if len(k.Wait) != 39 || len(k.Asked) != 1 {
		t.Errorf("behind a sync %d and %d wait", len(k.Wait), len(k.Asked))
	}
	// What was laid there beyond the limit does not stand there behind an operation either.
	k.Wait, k.Asked = slices.Repeat(pays, 11), slices.Repeat(asked, 2)
	k, _ = checkKeeperDo(t, k, impl.Op{Kind: impl.OpRelease, No: 1401})
	if len(k.Wait) != 400 || len(k.Asked) != 400 {
		t.Errorf("%d and %d wait", len(k.Wait), len(k.Asked))
	}
}

func TestKeeperWhoseJournalIsFull(t *testing.T) {
	n, _ := impl.NodeNew(0, -1, []int{1})
	tick, admit := impl.Op{Kind: impl.OpTick}, impl.Op{Kind: impl.OpAdmit, No: 1, Key: "a", N: 1}
	if size := len(frameOf(opBytes(admit))); size != 11 {
		t.Fatalf("an admit has %d bytes", size)
	}
	for size := impl.MaxJournal - 13; size <= impl.MaxJournal; size++ {
		log, _ := filledLog(size)
		k := impl.Keeper{Base: n, Node: impl.Replay(n, log), Log: log, Safe: size - 5, Wait: []impl.Msg{{Kind: 1}}}
		if !impl.KeeperOk(k) {
			t.Fatalf("with %d bytes it is right", size)
		}
		for _, op := range []impl.Op{tick, admit} {
			got, code := checkKeeperDo(t, k, op)
			more := len(frameOf(opBytes(op)))
			if isDone := code != impl.Bad; isDone != (size+more <= impl.MaxJournal) {
				t.Fatalf("%v behind %d bytes is answered %d", op, size, code)
			}
			if code == impl.Bad {
				continue
			}
			checkCrash(t, got, more+4)
			checkCrash(t, got, more+5)
		}
		synced, _, _ := checkSync(t, k)
		folded := checkFold(t, synced)
		if _, code := checkKeeperDo(t, folded, tick); code != impl.Done {
			t.Errorf("behind a fold a tick is answered %d", code)
		}
	}
}

func TestCrashWithEveryNumberOfBytes(t *testing.T) {
	top, _ := impl.NodeNew(0, -1, []int{1})
	for _, k := range []impl.Keeper{
		halfSafe(t),
		keptOver(t, top, []impl.Op{{Kind: impl.OpMint, Key: "a", N: 9}, {Kind: impl.OpAdmit, No: 2, Key: "a", N: 4}, {Kind: impl.OpMint, Key: "b", N: 300}}),
		keptOver(t, onTop(), nil),
	} {
		_, ends := endsOf(k.Log)
		safes := slices.Concat(ends, []int{k.Safe, k.Safe + 1, len(k.Log) / 3})
		for _, safe := range safes {
			k.Safe = min(safe, len(k.Log))
			none := checkCrash(t, k, 0)
			if none.Safe > k.Safe || !slices.Contains(ends, none.Safe) {
				t.Fatalf("of %d safe bytes %d are left", k.Safe, none.Safe)
			}
			for _, keep := range []int{-1, -2, -k.Safe, -len(k.Log) - 1, math.MinInt} {
				wantKeeper(t, "with fewer than none kept", checkCrash(t, k, keep), none)
			}
			all := checkCrash(t, k, len(k.Log)-k.Safe)
			if all.Log != k.Log || !sameNode(all.Node, k.Node) || len(all.Wait)+len(all.Asked) > 0 {
				t.Fatalf("with all kept it is %s", shownKeeper(all))
			}
			for _, more := range []int{1, 2, 1000, math.MaxInt - len(k.Log)} {
				wantKeeper(t, "with more kept than there are", checkCrash(t, k, len(k.Log)-k.Safe+more), all)
			}
			for keep := range len(k.Log) - k.Safe + 1 {
				left := checkCrash(t, k, keep)
				if !impl.KeeperOk(left) || left.Safe != len(left.Log) || left.Safe < none.Safe || !strings.HasPrefix(k.Log, left.Log) {
					t.Fatalf("with %d kept it is %s", keep, shownKeeper(left))
				}
			}
		}
	}
}

func TestWhatIsLeftBehindACrash(t *testing.T) {
	n, _ := impl.NodeNew(0, -1, []int{1})
	mint, admit := impl.Op{Kind: impl.OpMint, Key: "a", N: 10}, impl.Op{Kind: impl.OpAdmit, No: 1, Key: "a", N: 6}
	want := impl.Op{Kind: impl.OpHear, Msg: impl.Msg{From: 1, To: 0, Key: "a", N: 3}}
	k := keptOver(t, n, []impl.Op{mint})
	k, _, _ = checkSync(t, k)
	safe := k.Safe
	for _, op := range []impl.Op{admit, want} {
		k, _ = checkKeeperDo(t, k, op)
	}
	admitSize, wantSize := len(frameOf(opBytes(admit))), len(frameOf(opBytes(want)))
	for keep, purse := range map[int]impl.Purse{
		-1: {Key: "a", Minted: 10, Free: 10}, 0: {Key: "a", Minted: 10, Free: 10}, admitSize - 1: {Key: "a", Minted: 10, Free: 10},
		admitSize: {Key: "a", Minted: 10, Free: 4, Spent: 6}, admitSize + wantSize - 1: {Key: "a", Minted: 10, Free: 4, Spent: 6},
		admitSize + wantSize: {Key: "a", Minted: 10, Free: 1, Spent: 6}, 999: {Key: "a", Minted: 10, Free: 1, Spent: 6},
	} {
		left := checkCrash(t, k, keep)
		if impl.PurseOf(left.Node.Purses, "a") != purse || left.Safe < safe || left.Safe != len(left.Log) {
			t.Errorf("with %d kept there is %v", keep, left.Node.Purses)
		}
		// What was kept is safe, but who asked hears of it only when it is asked again.
		_, said, asked := checkSync(t, left)
		if len(said)+len(asked) > 0 {
			t.Errorf("with %d kept, %v and %v are told", keep, said, asked)
		}
		again, code := checkKeeperDo(t, left, admit)
		again, _ = checkKeeperDo(t, again, impl.Op{Kind: impl.OpTick})
		again, said, asked = checkSync(t, again)
		isPaid := keep >= admitSize+wantSize
		if code != impl.Done || len(asked) != 1 || impl.PurseOf(again.Node.Purses, "a").Spent != 6 || isPaid != (len(said) == 1) {
			t.Errorf("with %d kept, asked again: %d, %v, %v", keep, code, said, asked)
		}
		if once := checkCrash(t, left, keep); !sameKeeper(once, left) {
			t.Errorf("with %d kept, a second crash changes it", keep)
		}
	}
}

// TestCrashOfWhatIsWrong has no right keepers: what is left comes out of Base and Log all the same.
func TestCrashOfWhatIsWrong(t *testing.T) {
	right := halfSafe(t)
	for _, keep := range []int{math.MinInt, -1, 0, 1, 20, 40, 1000, math.MaxInt} {
		want := plainCrash(right, keep)
		for name, by := range otherNodes() {
			k := cloneKeeper(right)
			by(&k.Node)
			wantKeeper(t, "another "+name, impl.KeeperCrash(k, keep), want)
		}
		for _, n := range wrongNodes() {
			k := right
			k.Node = n
			wantKeeper(t, "a wrong Node", impl.KeeperCrash(k, keep), want)
			k = right
			k.Base = n
			wantKeeper(t, "a wrong Base", impl.KeeperCrash(k, keep), impl.Keeper{Base: n, Node: n, Log: want.Log, Safe: want.Safe})
		}
		for _, safe := range []int{len(right.Log) + 1, len(right.Log) + 1000, math.MaxInt} {
			k := right
			k.Safe = safe
			wantKeeper(t, "too much that is safe", impl.KeeperCrash(k, keep), plainCrash(right, math.MaxInt))
		}
		for _, safe := range []int{-1, math.MinInt} {
			k, none := right, right
			k.Safe, none.Safe = safe, 0
			wantKeeper(t, "less than nothing that is safe", impl.KeeperCrash(k, keep), plainCrash(none, keep))
		}
	}
	torn := right
	torn.Log, torn.Safe = right.Log+"xyz", len(right.Log)+2
	wantKeeper(t, "a safe part that is none", impl.KeeperCrash(torn, 0), plainCrash(right, math.MaxInt))
	torn.Log, torn.Safe = "x"+right.Log, 40
	wantKeeper(t, "a Log that is none", impl.KeeperCrash(torn, 100), impl.Keeper{Base: right.Base, Node: right.Base})
	// Of more bytes than a journal may have nothing is read, but of fewer of them there is.
	long := right
	long.Log = right.Log + strings.Repeat("x", impl.MaxJournal)
	wantKeeper(t, "too much is left", impl.KeeperCrash(long, math.MaxInt), impl.Keeper{Base: right.Base, Node: right.Base})
	wantKeeper(t, "just too much is left", impl.KeeperCrash(long, impl.MaxJournal-right.Safe+1), impl.Keeper{Base: right.Base, Node: right.Base})
	wantKeeper(t, "as much as may be is left", impl.KeeperCrash(long, impl.MaxJournal-right.Safe), plainCrash(right, math.MaxInt))
	wantKeeper(t, "the zero value", impl.KeeperCrash(impl.Keeper{}, 5), impl.Keeper{})
}

func TestFold(t *testing.T) {
	k := halfSafe(t)
	for safe := range len(k.Log) + 1 {
		k.Safe = safe
		got := checkFold(t, k)
		if safe < len(k.Log) && !sameKeeper(got, k) {
			t.Fatalf("with %d of %d bytes safe it is folded", safe, len(k.Log))
		}
	}
	// What waits is not named, and stays.
	got := checkFold(t, k)
	if got.Log != "" || got.Safe != 0 || !sameNode(got.Base, k.Node) || !sameNode(got.Node, k.Node) || len(got.Wait) != len(k.Wait) || len(got.Asked) != len(k.Asked) {
		t.Errorf("folded, it is %s", shownKeeper(got))
	}
	fresh, _ := impl.KeeperNew(inTheMiddle())
	if again := checkFold(t, fresh); !sameKeeper(again, fresh) {
		t.Errorf("without a journal it is %s", shownKeeper(again))
	}
	k, _, _ = checkSync(t, halfSafe(t))
	folded := checkFold(t, k)
	if folded.Log != "" || !impl.KeeperOk(folded) || !sameKeeper(checkFold(t, folded), folded) {
		t.Errorf("behind a sync it is %s", shownKeeper(folded))
	}
	// Behind a fold nothing goes back to what was ahead of it.
	wantKeeper(t, "a crash behind a fold", checkCrash(t, folded, 5), folded)
	next, _ := checkKeeperDo(t, folded, impl.Op{Kind: impl.OpAdmit, No: 6, Key: "a", N: 1})
	wantKeeper(t, "a crash behind a fold and an operation", checkCrash(t, next, 3), folded)
	wantKeeper(t, "a fold of what is not safe", checkFold(t, next), next)
}

// history is what a keeper was asked to do since it was made or folded, and what of that is safe.
type history struct {
	base impl.Node
	ops  []impl.Op
	safe int
}

// checkCrashed asks for a node that is what some beginning of what was done makes of it, with all that was safe.
func (h *history) checkCrashed(t *testing.T, k impl.Keeper) {
	t.Helper()
	left, end := impl.Read(k.Log)
	if len(left) < h.safe || len(left) > len(h.ops) || end != len(k.Log) || !slices.Equal(left, h.ops[:len(left)]) {
		t.Fatalf("of %d operations, %d of them safe, %d are left", len(h.ops), h.safe, len(left))
	}
	if !sameNode(k.Node, plainly(h.base, left)) || len(k.Wait)+len(k.Asked) > 0 || k.Safe != len(k.Log) {
		t.Fatalf("behind a crash it is %s", shownKeeper(k))
	}
	h.ops, h.safe = h.ops[:len(left)], len(left)
}

// TestKeepersOverManyRows does what may happen to a keeper, and holds what it tells against what was done.
func TestKeepersOverManyRows(t *testing.T) {
	lost, kept, told, folded := 0, 0, 0, 0
	for start := range uint32(40) {
		c := &chooser{start*2654435761 + 17}
		n, _ := impl.NodeNew(3, []int{-1, 1, 2}[start%3], []int{0, 4})
		k, _ := impl.KeeperNew(n)
		h := &history{base: n}
		var says []impl.Msg
		var answers []impl.Answer
		for range 250 {
			switch at := c.below(20); {
			case at < 15:
				op := c.op(k.Node)
				_, said, _ := impl.NodeDo(k.Node, op)
				next, code := checkKeeperDo(t, k, op)
				k = next
				if code == impl.Bad {
					continue
				}
				h.ops, says = append(h.ops, op), append(says, said...)
				if op.Kind <= impl.OpRelease {
					answers = append(answers, impl.Answer{Op: op, Code: code})
				}
				if _, end := impl.Read(k.Log[:k.Safe]); k.Safe == len(k.Log) || end != k.Safe {
					t.Fatalf("behind an operation %d of %d bytes are safe", k.Safe, len(k.Log))
				}
			case at < 17:
				next, said, asked := checkSync(t, k)
				if !slices.Equal(said, says[:min(400, len(says))]) || !slices.Equal(asked, answers) {
					t.Fatalf("told are %v and %v, want %v and %v", said, asked, says, answers)
				}
				told += len(said) + len(asked)
				k, says, answers, h.safe = next, nil, nil, len(h.ops)
			case at < 19:
				had := len(h.ops)
				keep := c.below(len(k.Log)-k.Safe+20) - 9
				k, says, answers = checkCrash(t, k, keep), nil, nil
				kept -= h.safe
				h.checkCrashed(t, k)
				kept += h.safe
				lost += had - len(h.ops)
			default:
				next := checkFold(t, k)
				if h.safe == len(h.ops) && len(h.ops) > 0 {
					h.base, h.ops, h.safe = k.Node, nil, 0
					folded++
				} else if !sameKeeper(next, k) {
					t.Fatalf("what is not safe is folded: %s", shownKeeper(k))
				}
				k = next
			}
			if !impl.KeeperOk(k) {
				t.Fatalf("it is not right any more: %s", shownKeeper(k))
			}
		}
	}
	if lost < 100 || kept < 100 || told < 1000 || folded < 20 {
		t.Errorf("lost are %d, kept %d, told %d, and folded was %d times: these are few", lost, kept, told, folded)
	}
}

// someKeepers has right ones and wrong ones, for what is asked of memory.
func someKeepers(t *testing.T) []impl.Keeper {
	t.Helper()
	half := halfSafe(t)
	safe, torn, wrongBase, wrongNode := half, half, cloneKeeper(half), cloneKeeper(half)
	safe.Safe = len(half.Log)
	torn.Log += "xyz"
	wrongBase.Base.Next, wrongNode.Node.Next = 0, 0
	fresh, _ := impl.KeeperNew(onTop())
	synced, _, _ := impl.KeeperSync(half)
	heard := safe
	heard.Asked = append(slices.Clone(safe.Asked), impl.Answer{Op: impl.Op{Kind: impl.OpHear, Msg: impl.Msg{From: 1, To: 5, Key: "heard", N: 1}}})
	full, _ := impl.KeeperNew(fullNode())
	return []impl.Keeper{half, safe, torn, wrongBase, wrongNode, fresh, synced, heard, full, {}}
}

func keeperOps() []impl.Op {
	return []impl.Op{{Kind: impl.OpMint, Key: "new", N: 1}, {Kind: impl.OpAdmit, No: 11, Key: "a", N: 1}, {Kind: impl.OpAdmit, No: 12, Key: "none", N: 1},
		{Kind: impl.OpRelease, No: 3}, {Kind: impl.OpWant, Key: "a", N: 1}, {Kind: impl.OpBack, Key: "a", N: 1}, {Kind: impl.OpTick}, {Kind: 7, Key: "a"},
		{Kind: impl.OpHear, Msg: impl.Msg{From: 7, To: 5, Key: "a", N: 1}}, {Kind: impl.OpHear, Msg: impl.Msg{Kind: impl.MsgPay, From: 1, To: 5, Id: 3, Low: 2, Key: "new", N: 1}}}
}

// keeperCalls has all that makes a keeper out of one, with a name; each tells also what is to be said and answered.
func keeperCalls() map[string]func(impl.Keeper) (impl.Keeper, []impl.Msg, []impl.Answer) {
	calls := map[string]func(impl.Keeper) (impl.Keeper, []impl.Msg, []impl.Answer){
		"sync": impl.KeeperSync,
		"fold": func(k impl.Keeper) (impl.Keeper, []impl.Msg, []impl.Answer) { return impl.KeeperFold(k), nil, nil },
		"new of Base": func(k impl.Keeper) (impl.Keeper, []impl.Msg, []impl.Answer) {
			made, _ := impl.KeeperNew(k.Base)
			return made, nil, nil
		},
		"ok": func(k impl.Keeper) (impl.Keeper, []impl.Msg, []impl.Answer) {
			impl.KeeperOk(k)
			return impl.Keeper{}, nil, nil
		},
	}
	for i, op := range keeperOps() {
		calls["do "+strconv.Itoa(i)] = func(k impl.Keeper) (impl.Keeper, []impl.Msg, []impl.Answer) {
			made, _ := impl.KeeperDo(k, op)
			return made, nil, nil
		}
	}
	for _, keep := range []int{-1, 0, 15, 1000} {
		calls["crash "+strconv.Itoa(keep)] = func(k impl.Keeper) (impl.Keeper, []impl.Msg, []impl.Answer) {
			return impl.KeeperCrash(k, keep), nil, nil
		}
	}
	return calls
}

// keeperTexts has all texts of a keeper and of what is told with it.
func keeperTexts(k impl.Keeper, said []impl.Msg, asked []impl.Answer) []string {
	list := slices.Concat(textsOf(k.Base), textsOf(k.Node), []string{k.Log})
	for _, m := range slices.Concat(k.Wait, said) {
		list = append(list, m.Key)
	}
	for _, a := range slices.Concat(k.Asked, asked) {
		list = append(list, a.Op.Key, a.Op.Msg.Key)
	}
	return list
}

func TestKeepersShareNoText(t *testing.T) {
	for i, k := range someKeepers(t) {
		given := keeperTexts(k, nil, nil)
		for name, call := range keeperCalls() {
			answered := keeperTexts(call(k))
			for at, text := range answered {
				for _, other := range slices.Concat(given, answered[:at]) {
					if liesIn(text, other) || liesIn(other, text) {
						t.Errorf("%s of keeper %d: the text %.40q is shared", name, i, text)
					}
				}
			}
		}
		for _, op := range keeperOps() {
			op.Key, op.Msg.Key = strings.Clone(op.Key), strings.Clone(op.Msg.Key)
			made, _ := impl.KeeperDo(k, op)
			for _, text := range keeperTexts(made, nil, nil) {
				if sharesText(text, op.Key) || sharesText(text, op.Msg.Key) {
					t.Errorf("KeeperDo of %v by keeper %d: its key is shared", op, i)
				}
			}
		}
	}
}

func spoilAnswers(list []impl.Answer) {
	for i := range list {
		list[i] = impl.Answer{Code: -5}
	}
	_ = append(list, impl.Answer{Code: -6})
}

// spoilers write into one list of an answer each, and behind it.
func spoilers() []func(impl.Keeper, []impl.Msg, []impl.Answer) {
	return []func(impl.Keeper, []impl.Msg, []impl.Answer){
		func(k impl.Keeper, _ []impl.Msg, _ []impl.Answer) { spoilNode(k.Base) },
		func(k impl.Keeper, _ []impl.Msg, _ []impl.Answer) { spoilNode(k.Node) },
		func(k impl.Keeper, _ []impl.Msg, _ []impl.Answer) { spoil(k.Wait) },
		func(k impl.Keeper, _ []impl.Msg, _ []impl.Answer) { spoilAnswers(k.Asked) },
		func(_ impl.Keeper, said []impl.Msg, _ []impl.Answer) { spoil(said) },
		func(_ impl.Keeper, _ []impl.Msg, asked []impl.Answer) { spoilAnswers(asked) },
	}
}

// partsOf shows what each of spoilers writes into.
func partsOf(k impl.Keeper, said []impl.Msg, asked []impl.Answer) []string {
	return []string{fmt.Sprint(k.Base), fmt.Sprint(k.Node), fmt.Sprint(k.Wait), fmt.Sprint(k.Asked), fmt.Sprint(said), fmt.Sprint(asked)}
}

func TestKeepersWriteIntoNothing(t *testing.T) {
	for i, k := range someKeepers(t) {
		room := []byte("<" + k.Log + ">")
		keptRoom := string(room)
		given := cloneKeeper(k)
		given.Log = unsafe.String(&room[1], len(k.Log))
		before := keeperWithRoom(given)
		for name, call := range keeperCalls() {
			want := partsOf(call(given))
			for which, write := range spoilers() {
				made, said, asked := call(given)
				write(made, said, asked)
				if keeperWithRoom(given) != before || string(room) != keptRoom {
					t.Fatalf("%s of keeper %d, or what part %d of its answer shares, writes into it", name, i, which)
				}
				for other, text := range partsOf(made, said, asked) {
					if other != which && text != want[other] {
						t.Fatalf("%s of keeper %d: parts %d and %d of its answer share memory", name, i, which, other)
					}
				}
			}
		}
	}
}
