package tests

import (
	"fmt"
	"math"
	"slices"
	"strconv"
	"strings"
	"testing"

	"loop.example/g00264/impl"
)

// cloneNode lays a node into memory of its own, with spare room behind each list.
func cloneNode(n impl.Node) impl.Node {
	n.Kids = append(slices.Clone(n.Kids), 77, 78)[:len(n.Kids)]
	n.Purses = append(slices.Clone(n.Purses), impl.Purse{Key: "room"})[:len(n.Purses)]
	n.Out = append(slices.Clone(n.Out), impl.Sent{Key: "room"}, impl.Sent{Key: "roomier"})[:len(n.Out)]
	n.Seen = append(slices.Clone(n.Seen), impl.Seen{From: 77})[:len(n.Seen)]
	for i, s := range n.Seen {
		n.Seen[i].Ids = append(slices.Clone(s.Ids), 77, 78)[:len(s.Ids)]
	}
	n.Reqs = append(slices.Clone(n.Reqs), impl.Req{Key: "room"}, impl.Req{Key: "roomier"})[:len(n.Reqs)]
	return n
}

// withRoom shows a node with all that lies behind its lists.
func withRoom(n impl.Node) string {
	n.Kids = n.Kids[:cap(n.Kids)]
	n.Purses = n.Purses[:cap(n.Purses)]
	n.Out = n.Out[:cap(n.Out)]
	n.Seen = slices.Clone(n.Seen[:cap(n.Seen)])
	for i, s := range n.Seen {
		n.Seen[i].Ids = s.Ids[:cap(s.Ids)]
	}
	n.Reqs = n.Reqs[:cap(n.Reqs)]
	return fmt.Sprint(n)
}

func sameSeen(a, b impl.Seen) bool {
	return a.From == b.From && a.Low == b.Low && slices.Equal(a.Ids, b.Ids)
}

func sameNode(a, b impl.Node) bool {
	return a.Id == b.Id && a.Parent == b.Parent && a.Next == b.Next && a.Old == b.Old && slices.Equal(a.Kids, b.Kids) &&
		slices.Equal(a.Purses, b.Purses) && slices.Equal(a.Out, b.Out) && slices.EqualFunc(a.Seen, b.Seen, sameSeen) &&
		slices.Equal(a.Reqs, b.Reqs)
}

func numbersFrom(first, count int) []int {
	var list []int
	for i := range count {
		list = append(list, first+i)
	}
	return list
}

func sentTo(to int, key string, n int, ids ...int) []impl.Sent {
	var list []impl.Sent
	for _, id := range ids {
		list = append(list, impl.Sent{Id: id, To: to, Key: key, N: n})
	}
	return list
}

func reqsOf(state int, key string, n int, numbers ...int) []impl.Req {
	var list []impl.Req
	for _, no := range numbers {
		list = append(list, impl.Req{No: no, Key: key, N: n, State: state})
	}
	return list
}

// inTheMiddle is node 5 between its parent 2 and its kids 1, 7 and 29.
func inTheMiddle() impl.Node {
	return impl.Node{
		Id: 5, Parent: 2, Kids: []int{1, 7, 29}, Next: 12,
		Purses: []impl.Purse{{Key: "a", Free: 10, Spent: 9}, {Key: "c", Free: 3}, {Key: "f"}},
		Out:    []impl.Sent{{Id: 4, To: 7, Key: "a", N: 3}, {Id: 6, To: 2, Key: "c", N: 1}, {Id: 9, To: 7, Key: "gone", N: 8}, {Id: 11, To: 29, Key: "a", N: most}},
		Seen:   []impl.Seen{{From: 1, Low: 1}, {From: 2, Low: 3, Ids: []int{3, 5, 9}}, {From: 7, Low: 8, Ids: []int{10}}, {From: 29, Low: most}},
		Old:    2,
		Reqs:   []impl.Req{{No: 3, Key: "a", N: 4}, {No: 5, Key: "a", N: 9, State: 1}, {No: 8, Key: "c", N: 2, State: 2}, {No: 9, Key: "a", N: 6}},
	}
}

// onTop is node 0 with two kids and no parent.
func onTop() impl.Node {
	return impl.Node{
		Parent: -1, Kids: []int{1, 3}, Next: 3,
		Purses: []impl.Purse{{Key: "a", Minted: 50, Free: 20, Spent: 5}, {Key: "b", Minted: most, Free: most}},
		Out:    sentTo(3, "a", 25, 2),
		Seen:   []impl.Seen{{From: 1, Low: 1}, {From: 3, Low: 2, Ids: []int{2}}},
		Reqs:   reqsOf(0, "a", 5, 7),
	}
}

// fullNode has as much of everything as there may be.
func fullNode() impl.Node {
	n := impl.Node{Id: 29, Parent: 0, Next: most, Purses: manyPurses(20), Old: most - 40}
	n.Kids = numbersFrom(1, 28)
	n.Out = sentTo(0, "k01", most, numbersFrom(most-40, 40)...)
	for from := range 29 {
		n.Seen = append(n.Seen, impl.Seen{From: from, Low: most - 39, Ids: numbersFrom(most-39, 40)})
	}
	n.Reqs = reqsOf(0, "k01", 1, numbersFrom(most-29, 30)...)
	return n
}

func rightNodes() []impl.Node {
	alone, _ := impl.NodeNew(3, -1, nil)
	leaf, _ := impl.NodeNew(4, 0, nil)
	fresh, _ := impl.NodeNew(5, 9, []int{0, 4, 6, 29})
	nodes := []impl.Node{alone, leaf, fresh, inTheMiddle(), onTop(), fullNode()}
	change := func(n impl.Node, by func(*impl.Node)) {
		n = cloneNode(n)
		by(&n)
		nodes = append(nodes, n)
	}
	change(inTheMiddle(), func(n *impl.Node) { n.Next = most })
	change(inTheMiddle(), func(n *impl.Node) { n.Next = most - 1 })
	for count := 38; count <= 40; count++ {
		change(inTheMiddle(), func(n *impl.Node) { n.Next, n.Out = 500, sentTo(7, "a", 1, numbersFrom(100, count)...) })
		change(inTheMiddle(), func(n *impl.Node) { n.Seen[1].Ids = numbersFrom(4, count) })
		change(inTheMiddle(), func(n *impl.Node) { n.Old, n.Reqs = 99, reqsOf(0, "a", 1, numbersFrom(103, count-10)...) })
	}
	change(inTheMiddle(), func(n *impl.Node) { n.Purses = manyPurses(20) })
	change(inTheMiddle(), func(n *impl.Node) {
		n.Purses = []impl.Purse{{Key: "a", Free: most}, {Key: "c", Free: 1, Spent: most - 1}}
	})
	change(inTheMiddle(), func(n *impl.Node) { n.Purses = []impl.Purse{{Key: "a", Free: 1, Spent: 1, Minted: most}} })
	change(inTheMiddle(), func(n *impl.Node) { n.Old, n.Reqs = most, nil })
	change(inTheMiddle(), func(n *impl.Node) { n.Old, n.Reqs = most-1, reqsOf(2, "a", 1, most) })
	change(onTop(), func(n *impl.Node) { n.Purses = manyPurses(20) })
	change(onTop(), func(n *impl.Node) { n.Out[0] = impl.Sent{Id: 1, To: 1, Key: "0123456789", N: 1} })
	return nodes
}

// wrongNodes has nodes with one fault each.
func wrongNodes() []impl.Node {
	var nodes []impl.Node
	change := func(by func(*impl.Node)) {
		for _, n := range []impl.Node{inTheMiddle(), fullNode()} {
			n = cloneNode(n)
			by(&n)
			nodes = append(nodes, n)
		}
	}
	for _, number := range []int{-1, -2, 30, 31, math.MaxInt, math.MinInt} {
		change(func(n *impl.Node) { n.Id = number })
		change(func(n *impl.Node) { n.Kids[0] = number })
		change(func(n *impl.Node) { n.Kids = append(n.Kids, number) })
		change(func(n *impl.Node) { n.Seen[1].From = number })
		change(func(n *impl.Node) { n.Out[1].To = number })
		change(func(n *impl.Node) { n.Parent = number })
	}
	for _, number := range []int{-1, 0, most + 1, math.MaxInt, math.MinInt} {
		change(func(n *impl.Node) { n.Next = number })
		change(func(n *impl.Node) { n.Out[1].N = number })
		change(func(n *impl.Node) { n.Out[0].Id = number })
		change(func(n *impl.Node) { n.Out[2].Id = number })
		change(func(n *impl.Node) { n.Seen[0].Low = number })
		change(func(n *impl.Node) { n.Seen[2].Ids = []int{number} })
		change(func(n *impl.Node) { n.Reqs[1].N = number })
		change(func(n *impl.Node) { n.Reqs[1].No = number })
		change(func(n *impl.Node) { n.Reqs[3].No = number })
		change(func(n *impl.Node) { n.Old = number - 1 })
	}
	for _, state := range []int{-1, 3, 256, math.MaxInt, math.MinInt} {
		change(func(n *impl.Node) { n.Reqs[1].State = state })
	}
	for _, key := range noKeys() {
		change(func(n *impl.Node) { n.Out[1].Key = key })
		change(func(n *impl.Node) { n.Reqs[1].Key = key })
	}
	for _, list := range wrongLists() {
		change(func(n *impl.Node) { n.Purses = list })
	}
	change(func(n *impl.Node) { n.Kids[0] = n.Id })
	change(func(n *impl.Node) { n.Kids[1] = n.Parent })
	change(func(n *impl.Node) { n.Parent = n.Id })
	change(func(n *impl.Node) { n.Parent = n.Kids[1] })
	change(func(n *impl.Node) { n.Id = n.Parent })
	change(func(n *impl.Node) { n.Id = n.Kids[0] })
	change(func(n *impl.Node) { n.Kids[0], n.Kids[1] = n.Kids[1], n.Kids[0] })
	change(func(n *impl.Node) { n.Kids[1] = n.Kids[0] })
	change(func(n *impl.Node) { n.Kids = n.Kids[1:] })
	change(func(n *impl.Node) { n.Kids = nil })
	change(func(n *impl.Node) { n.Seen = n.Seen[1:] })
	change(func(n *impl.Node) { n.Seen = n.Seen[:2] })
	change(func(n *impl.Node) { n.Seen = nil })
	change(func(n *impl.Node) { n.Seen[0], n.Seen[1] = n.Seen[1], n.Seen[0] })
	change(func(n *impl.Node) { n.Seen[1].From = n.Seen[0].From })
	change(func(n *impl.Node) { n.Seen = append(n.Seen, n.Seen[2]) })
	change(func(n *impl.Node) { n.Seen = append(n.Seen, impl.Seen{From: n.Id, Low: 1}) })
	change(func(n *impl.Node) { n.Seen[0].From = n.Id })
	change(func(n *impl.Node) { n.Seen[1].Low++; n.Seen[1].Ids = []int{n.Seen[1].Low - 1} })
	change(func(n *impl.Node) { n.Seen[1].Ids = []int{most - 3, most - 3} })
	change(func(n *impl.Node) { n.Seen[1].Ids = []int{most - 3, most - 4} })
	change(func(n *impl.Node) { n.Seen[1].Low = 1; n.Seen[1].Ids = numbersFrom(1, 41) })
	change(func(n *impl.Node) { n.Out[0].Id, n.Out[1].Id = n.Out[1].Id, n.Out[0].Id })
	change(func(n *impl.Node) { n.Out[1].Id = n.Out[0].Id })
	change(func(n *impl.Node) { n.Next = n.Out[len(n.Out)-1].Id })
	change(func(n *impl.Node) { n.Out[1].To = n.Id })
	change(func(n *impl.Node) { n.Next, n.Out = most, sentTo(n.Parent, "a", 1, numbersFrom(1, 41)...) })
	change(func(n *impl.Node) { n.Reqs[0], n.Reqs[1] = n.Reqs[1], n.Reqs[0] })
	change(func(n *impl.Node) { n.Reqs[1].No = n.Reqs[0].No })
	change(func(n *impl.Node) { n.Old = n.Reqs[0].No })
	change(func(n *impl.Node) { n.Old = most + 1; n.Reqs = nil })
	change(func(n *impl.Node) { n.Old, n.Reqs = 0, reqsOf(1, "a", 1, numbersFrom(1, 31)...) })
	// Where there is no parent, -1 is no neighbour either.
	top, sent, seen := onTop(), onTop(), onTop()
	top.Parent = -2
	sent.Out[0].To = -1
	seen.Seen = slices.Insert(seen.Seen, 0, impl.Seen{From: -1, Low: 1})
	return append(nodes, top, sent, seen, impl.Node{}, impl.Node{Parent: -1}, impl.Node{Id: 1, Next: 1})
}

// isRightNode says what a node is, as the document tells it.
func isRightNode(n impl.Node) bool {
	near := map[int]bool{}
	for i, other := range append([]int{n.Parent}, n.Kids...) {
		if i == 0 && other == -1 {
			continue
		}
		if !isIn(other, 0, 29) || other == n.Id || near[other] {
			return false
		}
		near[other] = true
	}
	if !isIn(n.Id, 0, 29) || !slices.IsSorted(n.Kids) || !isRight(n.Purses) || !isIn(n.Next, 1, most) {
		return false
	}
	for i, s := range n.Out {
		if !near[s.To] || !isIn(s.Id, 1, n.Next-1) || i > 0 && s.Id <= n.Out[i-1].Id || !impl.KeyOk(s.Key) || !isIn(s.N, 1, most) {
			return false
		}
	}
	for i, s := range n.Seen {
		if !near[s.From] || i > 0 && s.From <= n.Seen[i-1].From || !isIn(s.Low, 1, most) || len(s.Ids) > 40 {
			return false
		}
		for k, id := range s.Ids {
			if !isIn(id, s.Low, most) || k > 0 && id <= s.Ids[k-1] {
				return false
			}
		}
	}
	for i, r := range n.Reqs {
		if !isIn(r.No, n.Old+1, most) || i > 0 && r.No <= n.Reqs[i-1].No || !impl.KeyOk(r.Key) || !isIn(r.N, 1, most) || !isIn(r.State, 0, 2) {
			return false
		}
	}
	return isIn(n.Old, 0, most) && len(n.Out) <= 40 && len(n.Seen) == len(near) && len(n.Reqs) <= 30
}

// isOp says what an operation is, as the document tells it; a message is asked for by whom it is from and to elsewhere.
func isOp(op impl.Op) bool {
	isNo, isKey, isN := isIn(op.No, 1, most), impl.KeyOk(op.Key), isIn(op.N, 1, most)
	noNo, noKey, noN, noMsg := op.No == 0, op.Key == "", op.N == 0, op.Msg == impl.Msg{}
	switch op.Kind {
	case 0, 3, 4:
		return noNo && isKey && isN && noMsg
	case 1:
		return isNo && isKey && isN && noMsg
	case 2:
		return isNo && noKey && noN && noMsg
	case 5:
		return noNo && noKey && noN && noMsg
	case 6:
		return noNo && noKey && noN && isMsg(op.Msg)
	}
	return false
}

// plainNode does what the document tells, sentence by sentence, on a copy of a node.
type plainNode struct {
	impl.Node
	said []impl.Msg
}

func (p *plainNode) moved(which int, key string, n int) bool {
	list, ok := wantMoved(moves()[which], p.Purses, key, n)
	p.Purses = list
	return ok
}

func (p *plainNode) payMsg(s impl.Sent) impl.Msg {
	low := s.Id
	for _, other := range p.Out {
		if other.To == s.To && other.Id < low {
			low = other.Id
		}
	}
	return impl.Msg{Kind: 1, From: p.Id, To: s.To, Id: s.Id, Low: low, Key: s.Key, N: s.N}
}

func (p *plainNode) paid(to int, key string, n int) bool {
	for _, purse := range p.Purses {
		if purse.Key != key || purse.Free == 0 || len(p.Out) >= 40 || p.Next >= most {
			continue
		}
		s := impl.Sent{Id: p.Next, To: to, Key: key, N: min(n, purse.Free)}
		p.moved(2, key, s.N)
		p.Out = append(p.Out, s)
		p.Next++
		p.said = append(p.said, p.payMsg(s))
		return true
	}
	return false
}

func (p *plainNode) admitted(op impl.Op) int {
	for _, r := range p.Reqs {
		if r.No == op.No {
			return codeOf(r.State == 0 && r.Key == op.Key && r.N == op.N)
		}
	}
	r := impl.Req{No: op.No, Key: op.Key, N: op.N, State: 1}
	if p.moved(3, op.Key, op.N) {
		r.State = 0
	}
	p.Reqs = append(p.Reqs, r)
	slices.SortFunc(p.Reqs, func(a, b impl.Req) int { return a.No - b.No })
	if len(p.Reqs) > 30 {
		p.Old, p.Reqs = p.Reqs[0].No, p.Reqs[1:]
	}
	return r.State
}

func (p *plainNode) released(no int) int {
	for i, r := range p.Reqs {
		if r.No != no {
			continue
		}
		if r.State == 0 && p.moved(4, r.Key, r.N) {
			p.Reqs[i].State = 2
		}
		return codeOf(p.Reqs[i].State == 2)
	}
	return impl.Refused
}

func (p *plainNode) took(m impl.Msg) bool {
	for i := range p.Seen {
		s := &p.Seen[i]
		if s.From != m.From {
			continue
		}
		s.Low = max(s.Low, m.Low)
		for len(s.Ids) > 0 && s.Ids[0] < s.Low {
			s.Ids = s.Ids[1:]
		}
		if m.Id < s.Low || slices.Contains(s.Ids, m.Id) {
			return true
		}
		if len(s.Ids) >= 40 || !p.moved(1, m.Key, m.N) {
			return false
		}
		s.Ids = append(s.Ids, m.Id)
		slices.Sort(s.Ids)
		return true
	}
	return false
}

func (p *plainNode) heard(m impl.Msg) int {
	switch m.Kind {
	case 0:
		if m.From == p.Parent {
			return impl.Refused
		}
		p.paid(m.From, m.Key, m.N)
	case 1:
		if !p.took(m) {
			return impl.Refused
		}
		p.said = append(p.said, impl.Msg{Kind: 2, From: p.Id, To: m.From, Id: m.Id})
	case 2:
		for i, s := range p.Out {
			if s.Id == m.Id && s.To == m.From {
				p.Out = slices.Delete(p.Out, i, i+1)
				break
			}
		}
	}
	return impl.Done
}

func codeOf(done bool) int {
	if done {
		return impl.Done
	}
	return impl.Refused
}

func (p *plainNode) do(op impl.Op) int {
	isNear := op.Msg.From == p.Parent || slices.Contains(p.Kids, op.Msg.From)
	if !isRightNode(p.Node) || !isOp(op) || op.Kind == 6 && (op.Msg.To != p.Id || !isNear) {
		return impl.Bad
	}
	switch op.Kind {
	case 0:
		return codeOf(p.Parent == -1 && p.moved(0, op.Key, op.N))
	case 1, 2:
		if op.No <= p.Old {
			return impl.Stale
		}
		if op.Kind == 2 {
			return p.released(op.No)
		}
		return p.admitted(op)
	case 3:
		if p.Parent == -1 {
			return impl.Refused
		}
		p.said = append(p.said, impl.Msg{From: p.Id, To: p.Parent, Key: op.Key, N: op.N})
	case 4:
		return codeOf(p.Parent != -1 && p.paid(p.Parent, op.Key, op.N))
	case 5:
		for _, s := range p.Out {
			p.said = append(p.said, p.payMsg(s))
		}
	case 6:
		return p.heard(op.Msg)
	}
	return impl.Done
}

// checkDo holds what NodeDo answers against the plain one, and gives it on.
func checkDo(t *testing.T, n impl.Node, op impl.Op) (impl.Node, []impl.Msg, int) {
	t.Helper()
	p := plainNode{Node: cloneNode(n)}
	want := p.do(op)
	got, said, code := impl.NodeDo(n, op)
	if code != want || !sameNode(got, p.Node) || !slices.Equal(said, p.said) {
		t.Fatalf("NodeDo(%s, %s)\n= %s, %v, %d\nwant %s, %v, %d", shown(n), shown(op), shown(got), said, code, shown(p.Node), p.said, want)
	}
	if impl.NodeOk(got) != isRightNode(n) {
		t.Fatalf("NodeDo(%s, %s): a node that was right is not, or the other way: %s", shown(n), shown(op), shown(got))
	}
	return got, said, code
}

// someOps has operations at their bounds and beside them, with what a node of rightNodes has.
func someOps(n impl.Node) []impl.Op {
	keys := append([]string{"a", "c", "f", "b", "gone", "k00", "k01", "k19", "0123456789", "zz"}, noKeys()...)
	numbers := []int{math.MinInt, -1, 0, 1, 2, 3, 4, 9, 10, 11, 19, 20, 21, 500, most - 1, most, most + 1, math.MaxInt}
	nos := append([]int{5, 7, 8, n.Old - 1, n.Old, n.Old + 1, n.Old + 2, n.Old + 3}, numbers...)
	for _, r := range n.Reqs {
		nos = append(nos, r.No-1, r.No, r.No+1)
	}
	ops := []impl.Op{{Kind: impl.OpTick}, {Kind: -1}, {Kind: 7, Key: "a", N: 1}, {Kind: math.MaxInt}, {Kind: math.MinInt, No: 1}}
	for _, key := range keys {
		for _, number := range numbers {
			for _, kind := range []int{impl.OpMint, impl.OpWant, impl.OpBack} {
				ops = append(ops, impl.Op{Kind: kind, Key: key, N: number})
			}
		}
	}
	for _, no := range nos {
		ops = append(ops, impl.Op{Kind: impl.OpRelease, No: no})
		for _, key := range []string{"a", "c", "k01", "b", "", "B"} {
			for _, number := range []int{0, 1, 2, 4, 5, 9, 11, most, most + 1} {
				ops = append(ops, impl.Op{Kind: impl.OpAdmit, No: no, Key: key, N: number})
			}
		}
	}
	for _, m := range someMsgs(n) {
		ops = append(ops, impl.Op{Kind: impl.OpHear, Msg: m})
	}
	return ops
}

func someMsgs(n impl.Node) []impl.Msg {
	var list []impl.Msg
	froms := append([]int{-1, n.Parent, n.Id, 12, 30}, n.Kids[:min(2, len(n.Kids))]...)
	ids := []int{-1, 0, 1, 2, 3, 4, 5, 6, 9, 10, 11, 44, 100, 139, most - 40, most - 1, most, most + 1}
	for _, from := range froms {
		for _, to := range []int{n.Id, n.Parent, 13} {
			for _, key := range []string{"a", "c", "k01", "zz", "gone", ""} {
				for _, number := range []int{0, 1, 3, 10, 20, most, most + 1} {
					list = append(list, impl.Msg{From: from, To: to, Key: key, N: number})
				}
			}
			for _, id := range ids {
				list = append(list, impl.Msg{Kind: impl.MsgAck, From: from, To: to, Id: id})
				for _, low := range []int{0, 1, 2, 4, 6, 44, id - 1, id, id + 1} {
					for _, key := range []string{"a", "zz"} {
						list = append(list, impl.Msg{Kind: impl.MsgPay, From: from, To: to, Id: id, Low: low, Key: key, N: 1 + id%3*(most/2-9)})
					}
				}
			}
		}
	}
	return list
}

func TestNodesThatAreRight(t *testing.T) {
	for i, n := range rightNodes() {
		if !isRightNode(n) || !impl.NodeOk(n) {
			t.Errorf("%d is a node: %s", i, shown(n))
		}
	}
}

func TestNodesThatAreWrong(t *testing.T) {
	for i, n := range wrongNodes() {
		if isRightNode(n) || impl.NodeOk(n) {
			t.Errorf("%d is no node: %s", i, shown(n))
		}
	}
}

func TestNodeNewValues(t *testing.T) {
	n, ok := impl.NodeNew(5, 9, []int{0, 7, 29})
	want := impl.Node{Id: 5, Parent: 9, Kids: []int{0, 7, 29}, Next: 1,
		Seen: []impl.Seen{{From: 0, Low: 1}, {From: 7, Low: 1}, {From: 9, Low: 1}, {From: 29, Low: 1}}}
	if !ok || !sameNode(n, want) {
		t.Errorf("NodeNew is %v, %v", n, ok)
	}
	n, ok = impl.NodeNew(29, -1, nil)
	if !ok || !sameNode(n, impl.Node{Id: 29, Parent: -1, Next: 1}) {
		t.Errorf("NodeNew of one that is alone is %v, %v", n, ok)
	}
}

func TestNodeNewOfAnyNumbers(t *testing.T) {
	numbers := []int{math.MinInt, -2, -1, 0, 1, 2, 28, 29, 30, math.MaxInt}
	kids := [][]int{nil, {}, {1, 2}, {2, 1}, {1, 1}, {0, 29}, {29}, {30}, {-1}, {-1, 3}, {3, 30}, {0, 2, 4, 3}, {math.MinInt, 4}, {4, math.MaxInt}, numbersFrom(0, 30), numbersFrom(0, 29), numbersFrom(1, 28), numbersFrom(0, 2000)}
	for _, number := range numbers {
		kids = append(kids, []int{number})
	}
	made := 0
	for _, id := range numbers {
		for _, parent := range numbers {
			for _, list := range kids {
				others := slices.Clone(list)
				if parent != -1 {
					others = append(others, parent)
				}
				slices.Sort(others)
				want := impl.Node{Id: id, Parent: parent, Kids: list, Next: 1}
				for _, from := range others {
					want.Seen = append(want.Seen, impl.Seen{From: from, Low: 1})
				}
				wantOk := isRightNode(want)
				if !wantOk {
					want = impl.Node{}
				}
				if n, ok := impl.NodeNew(id, parent, list); ok != wantOk || !sameNode(n, want) {
					t.Fatalf("NodeNew(%d, %d, %s) is %s, %v", id, parent, shown(list), shown(n), ok)
				}
				if wantOk {
					made++
				}
			}
		}
	}
	if made < 100 {
		t.Errorf("%d nodes are few", made)
	}
}

func TestOperationsOneByOne(t *testing.T) {
	hear := func(m impl.Msg) impl.Op { return impl.Op{Kind: impl.OpHear, Msg: m} }
	for _, c := range []struct {
		name string
		from impl.Node
		op   impl.Op
		code int
		said []impl.Msg
		then func(*impl.Node)
	}{
		{"mint", onTop(), impl.Op{Kind: impl.OpMint, Key: "a", N: 6}, impl.Done, nil,
			func(n *impl.Node) { n.Purses[0].Minted, n.Purses[0].Free = 56, 26 }},
		{"mint beyond", onTop(), impl.Op{Kind: impl.OpMint, Key: "b", N: 1}, impl.Refused, nil, nil},
		{"mint below another one", inTheMiddle(), impl.Op{Kind: impl.OpMint, Key: "a", N: 1}, impl.Refused, nil, nil},
		{"admit", inTheMiddle(), impl.Op{Kind: impl.OpAdmit, No: 6, Key: "a", N: 10}, impl.Done, nil, func(n *impl.Node) {
			n.Purses[0].Free, n.Purses[0].Spent = 0, 19
			n.Reqs = slices.Insert(n.Reqs, 2, impl.Req{No: 6, Key: "a", N: 10})
		}},
		{"admit too much", inTheMiddle(), impl.Op{Kind: impl.OpAdmit, No: 10, Key: "a", N: 11}, impl.Refused, nil,
			func(n *impl.Node) { n.Reqs = append(n.Reqs, impl.Req{No: 10, Key: "a", N: 11, State: 1}) }},
		{"admit of a key that is not there", inTheMiddle(), impl.Op{Kind: impl.OpAdmit, No: 4, Key: "b", N: 1}, impl.Refused, nil,
			func(n *impl.Node) { n.Reqs = slices.Insert(n.Reqs, 1, impl.Req{No: 4, Key: "b", N: 1, State: 1}) }},
		{"admit again", inTheMiddle(), impl.Op{Kind: impl.OpAdmit, No: 3, Key: "a", N: 4}, impl.Done, nil, nil},
		{"admit again of another key", inTheMiddle(), impl.Op{Kind: impl.OpAdmit, No: 3, Key: "c", N: 4}, impl.Refused, nil, nil},
		{"admit again of fewer", inTheMiddle(), impl.Op{Kind: impl.OpAdmit, No: 3, Key: "a", N: 3}, impl.Refused, nil, nil},
		{"admit again what was refused", inTheMiddle(), impl.Op{Kind: impl.OpAdmit, No: 5, Key: "a", N: 9}, impl.Refused, nil, nil},
		{"admit again what was released", inTheMiddle(), impl.Op{Kind: impl.OpAdmit, No: 8, Key: "c", N: 2}, impl.Refused, nil, nil},
		{"admit at Old", inTheMiddle(), impl.Op{Kind: impl.OpAdmit, No: 2, Key: "a", N: 1}, impl.Stale, nil, nil},
		{"release", inTheMiddle(), impl.Op{Kind: impl.OpRelease, No: 3}, impl.Done, nil,
			func(n *impl.Node) { n.Purses[0].Free, n.Purses[0].Spent, n.Reqs[0].State = 14, 5, 2 }},
		{"release again", inTheMiddle(), impl.Op{Kind: impl.OpRelease, No: 8}, impl.Done, nil, nil},
		{"release what was refused", inTheMiddle(), impl.Op{Kind: impl.OpRelease, No: 5}, impl.Refused, nil, nil},
		{"release of none", inTheMiddle(), impl.Op{Kind: impl.OpRelease, No: 4}, impl.Refused, nil, nil},
		{"release below Old", inTheMiddle(), impl.Op{Kind: impl.OpRelease, No: 1}, impl.Stale, nil, nil},
		{"release at Old", inTheMiddle(), impl.Op{Kind: impl.OpRelease, No: 2}, impl.Stale, nil, nil},
		{"want", inTheMiddle(), impl.Op{Kind: impl.OpWant, Key: "zz", N: most}, impl.Done,
			[]impl.Msg{{Kind: impl.MsgWant, From: 5, To: 2, Key: "zz", N: most}}, nil},
		{"want on top", onTop(), impl.Op{Kind: impl.OpWant, Key: "a", N: 1}, impl.Refused, nil, nil},
		{"back", inTheMiddle(), impl.Op{Kind: impl.OpBack, Key: "c", N: 2}, impl.Done,
			[]impl.Msg{{Kind: impl.MsgPay, From: 5, To: 2, Id: 12, Low: 6, Key: "c", N: 2}}, func(n *impl.Node) {
				n.Purses[1].Free, n.Next = 1, 13
				n.Out = append(n.Out, impl.Sent{Id: 12, To: 2, Key: "c", N: 2})
			}},
		{"back of more than there is", inTheMiddle(), impl.Op{Kind: impl.OpBack, Key: "c", N: 4}, impl.Done,
			[]impl.Msg{{Kind: impl.MsgPay, From: 5, To: 2, Id: 12, Low: 6, Key: "c", N: 3}}, func(n *impl.Node) {
				n.Purses[1].Free, n.Next = 0, 13
				n.Out = append(n.Out, impl.Sent{Id: 12, To: 2, Key: "c", N: 3})
			}},
		{"back of nothing", inTheMiddle(), impl.Op{Kind: impl.OpBack, Key: "f", N: 1}, impl.Refused, nil, nil},
		{"back on top", onTop(), impl.Op{Kind: impl.OpBack, Key: "a", N: 1}, impl.Refused, nil, nil},
		{"tick", inTheMiddle(), impl.Op{Kind: impl.OpTick}, impl.Done, []impl.Msg{
			{Kind: impl.MsgPay, From: 5, To: 7, Id: 4, Low: 4, Key: "a", N: 3}, {Kind: impl.MsgPay, From: 5, To: 2, Id: 6, Low: 6, Key: "c", N: 1},
			{Kind: impl.MsgPay, From: 5, To: 7, Id: 9, Low: 4, Key: "gone", N: 8}, {Kind: impl.MsgPay, From: 5, To: 29, Id: 11, Low: 11, Key: "a", N: most},
		}, nil},
		{"a kid's want", inTheMiddle(), hear(impl.Msg{From: 7, To: 5, Key: "a", N: 7}), impl.Done,
			[]impl.Msg{{Kind: impl.MsgPay, From: 5, To: 7, Id: 12, Low: 4, Key: "a", N: 7}}, func(n *impl.Node) {
				n.Purses[0].Free, n.Next = 3, 13
				n.Out = append(n.Out, impl.Sent{Id: 12, To: 7, Key: "a", N: 7})
			}},
		{"the first want of a kid", inTheMiddle(), hear(impl.Msg{From: 1, To: 5, Key: "a", N: 11}), impl.Done,
			[]impl.Msg{{Kind: impl.MsgPay, From: 5, To: 1, Id: 12, Low: 12, Key: "a", N: 10}}, func(n *impl.Node) {
				n.Purses[0].Free, n.Next = 0, 13
				n.Out = append(n.Out, impl.Sent{Id: 12, To: 1, Key: "a", N: 10})
			}},
		{"a kid's want of nothing", inTheMiddle(), hear(impl.Msg{From: 7, To: 5, Key: "f", N: 7}), impl.Done, nil, nil},
		{"the parent's want", inTheMiddle(), hear(impl.Msg{From: 2, To: 5, Key: "a", N: 7}), impl.Refused, nil, nil},
		{"ack", inTheMiddle(), hear(impl.Msg{Kind: impl.MsgAck, From: 7, To: 5, Id: 4}), impl.Done, nil, func(n *impl.Node) { n.Out = n.Out[1:] }},
		{"ack of another one's", inTheMiddle(), hear(impl.Msg{Kind: impl.MsgAck, From: 2, To: 5, Id: 4}), impl.Done, nil, nil},
		{"ack of none", inTheMiddle(), hear(impl.Msg{Kind: impl.MsgAck, From: 7, To: 5, Id: 12}), impl.Done, nil, nil},
		{"pay", inTheMiddle(), hear(impl.Msg{Kind: impl.MsgPay, From: 2, To: 5, Id: 7, Low: 2, Key: "b", N: 8}), impl.Done,
			[]impl.Msg{{Kind: impl.MsgAck, From: 5, To: 2, Id: 7}}, func(n *impl.Node) {
				n.Purses = slices.Insert(n.Purses, 1, impl.Purse{Key: "b", Free: 8})
				n.Seen[1].Ids = []int{3, 5, 7, 9}
			}},
		{"pay of a kid", inTheMiddle(), hear(impl.Msg{Kind: impl.MsgPay, From: 7, To: 5, Id: 8, Low: 8, Key: "a", N: 8}), impl.Done,
			[]impl.Msg{{Kind: impl.MsgAck, From: 5, To: 7, Id: 8}}, func(n *impl.Node) { n.Purses[0].Free, n.Seen[2].Ids = 18, []int{8, 10} }},
		{"pay with a Low that goes on", inTheMiddle(), hear(impl.Msg{Kind: impl.MsgPay, From: 2, To: 5, Id: 6, Low: 6, Key: "a", N: 1}), impl.Done,
			[]impl.Msg{{Kind: impl.MsgAck, From: 5, To: 2, Id: 6}},
			func(n *impl.Node) { n.Purses[0].Free, n.Seen[1].Low, n.Seen[1].Ids = 11, 6, []int{6, 9} }},
		{"pay that was taken", inTheMiddle(), hear(impl.Msg{Kind: impl.MsgPay, From: 2, To: 5, Id: 9, Low: 5, Key: "a", N: 1}), impl.Done,
			[]impl.Msg{{Kind: impl.MsgAck, From: 5, To: 2, Id: 9}}, func(n *impl.Node) { n.Seen[1].Low, n.Seen[1].Ids = 5, []int{5, 9} }},
		{"pay below Low", inTheMiddle(), hear(impl.Msg{Kind: impl.MsgPay, From: 2, To: 5, Id: 2, Low: 1, Key: "a", N: 1}), impl.Done,
			[]impl.Msg{{Kind: impl.MsgAck, From: 5, To: 2, Id: 2}}, nil},
		{"pay beyond", inTheMiddle(), hear(impl.Msg{Kind: impl.MsgPay, From: 2, To: 5, Id: 20, Low: 10, Key: "a", N: most - 18}), impl.Refused,
			nil, func(n *impl.Node) { n.Seen[1].Low, n.Seen[1].Ids = 10, nil }},
		{"pay at the bound", inTheMiddle(), hear(impl.Msg{Kind: impl.MsgPay, From: 2, To: 5, Id: 20, Low: 3, Key: "a", N: most - 19}), impl.Done,
			[]impl.Msg{{Kind: impl.MsgAck, From: 5, To: 2, Id: 20}}, func(n *impl.Node) { n.Purses[0].Free, n.Seen[1].Ids = most-9, []int{3, 5, 9, 20} }},
	} {
		want := cloneNode(c.from)
		if c.then != nil {
			c.then(&want)
		}
		n, said, code := checkDo(t, c.from, c.op)
		if code != c.code || !sameNode(n, want) || !slices.Equal(said, c.said) {
			t.Errorf("%s: %v, %v, %d\nwant %v, %v, %d", c.name, n, said, code, want, c.said, c.code)
		}
	}
}

func TestOperationsOfRightNodes(t *testing.T) {
	codes := map[[2]int]int{}
	for _, n := range rightNodes() {
		for _, op := range someOps(n) {
			_, _, code := checkDo(t, n, op)
			codes[[2]int{op.Kind, code}]++
		}
	}
	for _, kind := range numbersFrom(0, 7) {
		for _, code := range []int{impl.Done, impl.Refused, impl.Stale, impl.Bad} {
			isStale, isTick := code == impl.Stale, kind == impl.OpTick
			if isStale && kind != impl.OpAdmit && kind != impl.OpRelease || isTick && code != impl.Done {
				continue
			}
			if codes[[2]int{kind, code}] < 10 {
				t.Errorf("operation %d was answered %d %d times only", kind, code, codes[[2]int{kind, code}])
			}
		}
	}
}

func TestOperationsOfWrongNodes(t *testing.T) {
	ops := []impl.Op{{Kind: impl.OpMint, Key: "a", N: 1}, {Kind: impl.OpAdmit, No: 6, Key: "a", N: 1}, {Kind: impl.OpRelease, No: 3},
		{Kind: impl.OpWant, Key: "a", N: 1}, {Kind: impl.OpBack, Key: "a", N: 1}, {Kind: impl.OpTick}, {Kind: 7}, {Kind: -1, N: 4},
		{Kind: impl.OpHear, Msg: impl.Msg{From: 1, To: 5, Key: "a", N: 1}}, {Kind: impl.OpHear, Msg: impl.Msg{Kind: impl.MsgAck, From: 7, To: 5, Id: 4}},
		{Kind: impl.OpHear, Msg: impl.Msg{Kind: impl.MsgPay, From: 1, To: 5, Id: 9, Low: 2, Key: "a", N: 1}}}
	for _, n := range wrongNodes() {
		for _, op := range ops {
			if _, _, code := checkDo(t, n, op); code != impl.Bad {
				t.Fatalf("NodeDo(%s, %s) is not Bad", shown(n), shown(op))
			}
		}
		if list := impl.Pays(n); len(list) != 0 {
			t.Fatalf("Pays(%s) is %v", shown(n), list)
		}
	}
}

// TestOperationsWithWhatTheyHaveNot puts into each operation what another kind has.
func TestOperationsWithWhatTheyHaveNot(t *testing.T) {
	msg := impl.Msg{From: 1, To: 5, Key: "a", N: 1}
	right := []impl.Op{{Kind: impl.OpMint, Key: "a", N: 1}, {Kind: impl.OpAdmit, No: 6, Key: "a", N: 1}, {Kind: impl.OpRelease, No: 3},
		{Kind: impl.OpWant, Key: "a", N: 1}, {Kind: impl.OpBack, Key: "a", N: 1}, {Kind: impl.OpTick}, {Kind: impl.OpHear, Msg: msg}}
	tried := 0
	for _, n := range []impl.Node{inTheMiddle(), onTop()} {
		for _, op := range right {
			if op.Kind != impl.OpHear || n.Id == 5 {
				if _, _, code := checkDo(t, n, op); code == impl.Bad {
					t.Fatalf("%v is Bad", op)
				}
			}
			for _, number := range []int{1, -1, most, math.MinInt} {
				for _, changed := range []impl.Op{
					{Kind: op.Kind, No: number, Key: op.Key, N: op.N, Msg: op.Msg},
					{Kind: op.Kind, No: op.No, Key: op.Key, N: number, Msg: op.Msg},
					{Kind: op.Kind, No: op.No, Key: "a", N: op.N, Msg: op.Msg},
					{Kind: op.Kind, No: op.No, Key: "A", N: op.N, Msg: op.Msg},
					{Kind: op.Kind, No: op.No, Key: op.Key, N: op.N, Msg: msg},
					{Kind: op.Kind, No: op.No, Key: op.Key, N: op.N, Msg: impl.Msg{Id: number}},
					{Kind: op.Kind, No: op.No, Key: op.Key, N: op.N, Msg: impl.Msg{Kind: number}},
					{Kind: op.Kind, No: op.No, Key: op.Key, N: op.N, Msg: impl.Msg{Key: "a"}},
					{Kind: op.Kind + 7, No: op.No, Key: op.Key, N: op.N, Msg: op.Msg},
					{Kind: op.Kind - 7, No: op.No, Key: op.Key, N: op.N, Msg: op.Msg},
					{Kind: op.Kind + 256, No: op.No, Key: op.Key, N: op.N, Msg: op.Msg},
				} {
					_, said, code := checkDo(t, n, changed)
					if isOp(changed) {
						continue
					}
					tried++
					if code != impl.Bad || len(said) != 0 {
						t.Fatalf("%v: %v, %d", changed, said, code)
					}
				}
			}
		}
	}
	if tried < 200 {
		t.Errorf("%d are few", tried)
	}
}

func TestMsgsThatAreNotForTheNode(t *testing.T) {
	for _, m := range []impl.Msg{
		{From: 3, To: 5, Key: "a", N: 1},
		{From: 7, To: 2, Key: "a", N: 1},
		{From: 5, To: 7, Key: "a", N: 1},
		{From: 5, To: 5, Key: "a", N: 1},
		{From: 0, To: 5, Key: "a", N: 1},
		{From: -1, To: 5, Key: "a", N: 1},
		{From: 30, To: 5, Key: "a", N: 1},
		{From: 7, To: 5, Key: "a"},
		{Kind: impl.MsgAck, From: 3, To: 5, Id: 4},
		{Kind: impl.MsgAck, From: 7, To: 4, Id: 4},
		{Kind: impl.MsgAck, From: 7, To: 5},
		{Kind: impl.MsgPay, From: 6, To: 5, Id: 4, Low: 1, Key: "a", N: 1},
		{Kind: impl.MsgPay, From: 7, To: 29, Id: 4, Low: 1, Key: "a", N: 1},
		{Kind: impl.MsgPay, From: 7, To: 5, Id: 4, Low: 5, Key: "a", N: 1},
		{Kind: impl.MsgPay, From: 7, To: 5, Id: most + 1, Low: 5, Key: "a", N: 1},
		{Kind: 3, From: 7, To: 5},
		{},
	} {
		if _, _, code := checkDo(t, inTheMiddle(), impl.Op{Kind: impl.OpHear, Msg: m}); code != impl.Bad {
			t.Errorf("%v is answered %d", m, code)
		}
	}
	top := onTop()
	if _, _, code := checkDo(t, top, impl.Op{Kind: impl.OpHear, Msg: impl.Msg{From: -1, To: 0, Key: "a", N: 1}}); code != impl.Bad {
		t.Error("what is no node is heard as the parent that there is not")
	}
}

func TestRequestsThatAreKept(t *testing.T) {
	n, _ := impl.NodeNew(0, -1, nil)
	n, _, _ = impl.NodeDo(n, impl.Op{Kind: impl.OpMint, Key: "a", N: 100})
	admit := func(no, amount, want int) {
		t.Helper()
		next, _, code := checkDo(t, n, impl.Op{Kind: impl.OpAdmit, No: no, Key: "a", N: amount})
		if code != want {
			t.Fatalf("request %d is answered %d, want %d", no, code, want)
		}
		n = next
	}
	for i := range 30 {
		admit(10+2*i, 1, impl.Done)
	}
	if n.Old != 0 || len(n.Reqs) != 30 {
		t.Fatalf("30 requests: %d, %v", n.Old, n.Reqs)
	}
	// Asked again, none is new, and none goes.
	for i := range 30 {
		admit(10+2*i, 1, impl.Done)
		admit(10+2*i, 2, impl.Refused)
	}
	if p := impl.PurseOf(n.Purses, "a"); p.Spent != 30 || n.Old != 0 || len(n.Reqs) != 30 {
		t.Fatalf("asked again: %v, %d", p, n.Old)
	}
	// It is the least, and goes as it comes: it is spent, and asked again it is stale.
	admit(5, 3, impl.Done)
	if p := impl.PurseOf(n.Purses, "a"); p.Spent != 33 || n.Old != 5 || len(n.Reqs) != 30 || n.Reqs[0].No != 10 {
		t.Fatalf("one that goes as it comes: %v, %d, %v", p, n.Old, n.Reqs)
	}
	admit(5, 3, impl.Stale)
	admit(4, 3, impl.Stale)
	// So does one that is not let through.
	admit(7, 1000, impl.Refused)
	if p := impl.PurseOf(n.Purses, "a"); p.Spent != 33 || n.Old != 7 || len(n.Reqs) != 30 {
		t.Fatalf("a refused one that goes as it comes: %v, %d", p, n.Old)
	}
	admit(7, 1, impl.Stale)
	admit(11, 1, impl.Done)
	if n.Old != 10 || n.Reqs[0].No != 11 {
		t.Fatalf("one behind the first: %d, %v", n.Old, n.Reqs)
	}
	if _, _, code := checkDo(t, n, impl.Op{Kind: impl.OpRelease, No: 10}); code != impl.Stale {
		t.Errorf("what is gone is released: %d", code)
	}
	admit(most, 67, impl.Refused)
	admit(most, 66, impl.Refused)
	if n.Old != 11 || len(n.Reqs) != 30 {
		t.Errorf("at the end: %d, %d", n.Old, len(n.Reqs))
	}
	admit(most-1, 66, impl.Done)
	if p := impl.PurseOf(n.Purses, "a"); p.Free != 0 || p.Spent != 100 || n.Old != 12 {
		t.Errorf("all is spent: %v, %d", p, n.Old)
	}
}

// TestReleaseOfWhatIsNotSpent has a request that was let through, but not as much that is spent.
func TestReleaseOfWhatIsNotSpent(t *testing.T) {
	n := inTheMiddle()
	n.Purses = []impl.Purse{{Key: "a", Free: 8, Spent: 3}}
	for no, want := range map[int]int{3: impl.Refused, 9: impl.Refused, 8: impl.Done} {
		got, _, code := checkDo(t, n, impl.Op{Kind: impl.OpRelease, No: no})
		if code != want || !sameNode(got, n) {
			t.Errorf("release of %d: %v, %d", no, got, code)
		}
	}
	n.Purses[0].Spent = 4
	got, _, code := checkDo(t, n, impl.Op{Kind: impl.OpRelease, No: 3})
	if code != impl.Done || got.Purses[0] != (impl.Purse{Key: "a", Free: 12}) || got.Reqs[0].State != 2 {
		t.Errorf("release of just what is spent: %v, %d", got, code)
	}
}

// TestNothingIsPaid has nodes that may not pay, and such as may just once more.
func TestNothingIsPaid(t *testing.T) {
	back := impl.Op{Kind: impl.OpBack, Key: "a", N: 1}
	want := impl.Op{Kind: impl.OpHear, Msg: impl.Msg{From: 7, To: 5, Key: "a", N: 1}}
	for _, c := range []struct {
		next, out int
		paid      bool
	}{{500, 38, true}, {500, 39, true}, {500, 40, false}, {most - 2, 0, true}, {most - 1, 0, true}, {most, 0, false}, {most - 1, 39, true}, {most - 1, 40, false}, {most, 39, false}} {
		n := inTheMiddle()
		n.Next, n.Out = c.next, sentTo(29, "c", 1, numbersFrom(100, c.out)...)
		for _, op := range []impl.Op{back, want} {
			got, said, code := checkDo(t, n, op)
			wantCode := codeOf(c.paid || op.Kind == impl.OpHear)
			if code != wantCode || !c.paid && (!sameNode(got, n) || len(said) != 0) {
				t.Errorf("%d, with %d sent: %v, %v, %d", c.next, c.out, got, said, code)
			}
			if c.paid && (got.Next != c.next+1 || len(got.Out) != c.out+1 || len(said) != 1 || said[0].Id != c.next || said[0].Low != c.next || impl.Holding(got.Purses, "a") != 18) {
				t.Errorf("%d, with %d sent: %v, %v", c.next, c.out, got, said)
			}
		}
	}
}

// TestSeenThatIsFull has as many Ids as are kept: one more is refused until Low goes on.
func TestSeenThatIsFull(t *testing.T) {
	n, _ := impl.NodeNew(1, 0, nil)
	pay := func(id, low, want int) {
		t.Helper()
		next, _, code := checkDo(t, n, impl.Op{Kind: impl.OpHear, Msg: impl.Msg{Kind: impl.MsgPay, From: 0, To: 1, Id: id, Low: low, Key: "a", N: 1}})
		if code != want {
			t.Fatalf("payment %d, %d is answered %d, want %d", id, low, code, want)
		}
		n = next
	}
	for i := range 40 {
		pay(100-2*i, 1, impl.Done)
	}
	pay(101, 1, impl.Refused)
	pay(21, 20, impl.Refused)
	if n.Seen[0].Low != 20 || len(n.Seen[0].Ids) != 40 || impl.Holding(n.Purses, "a") != 40 {
		t.Fatalf("a full one: %v", n)
	}
	pay(100, 22, impl.Done)
	pay(22, 22, impl.Done)
	pay(21, 1, impl.Done)
	if n.Seen[0].Low != 22 || len(n.Seen[0].Ids) != 40 || impl.Holding(n.Purses, "a") != 40 {
		t.Fatalf("what was taken, again: %v", n)
	}
	pay(25, 23, impl.Done)
	if n.Seen[0].Low != 23 || len(n.Seen[0].Ids) != 40 || impl.Holding(n.Purses, "a") != 41 {
		t.Fatalf("there was one free: %v", n)
	}
	pay(27, 23, impl.Refused)
	pay(most, most, impl.Done)
	if !sameSeen(n.Seen[0], impl.Seen{From: 0, Low: most, Ids: []int{most}}) || impl.Holding(n.Purses, "a") != 42 {
		t.Fatalf("the last one: %v", n)
	}
	pay(most, 1, impl.Done)
	pay(most-1, 1, impl.Done)
	if n.Seen[0].Low != most || impl.Holding(n.Purses, "a") != 42 {
		t.Fatalf("behind the last one: %v", n)
	}
}

// TestLowGoesOnWhereAPaymentIsRefused has purses that are full, of their amount and of their number.
func TestLowGoesOnWhereAPaymentIsRefused(t *testing.T) {
	for _, purses := range [][]impl.Purse{{{Key: "a", Free: most - 3, Spent: 3}}, manyPurses(20)} {
		n := inTheMiddle()
		n.Purses, n.Out, n.Reqs = purses, nil, nil
		for low := 1; low <= 12; low++ {
			m := impl.Msg{Kind: impl.MsgPay, From: 2, To: 5, Id: 12, Low: low, Key: "a", N: 1}
			got, said, code := checkDo(t, n, impl.Op{Kind: impl.OpHear, Msg: m})
			want := cloneNode(n)
			want.Seen[1].Low = max(3, low)
			want.Seen[1].Ids = slices.DeleteFunc([]int{3, 5, 9}, func(id int) bool { return id < low })
			if code != impl.Refused || len(said) != 0 || !sameNode(got, want) {
				t.Errorf("%v, %v, %d", got, said, code)
			}
		}
	}
}

func TestPays(t *testing.T) {
	for _, n := range rightNodes() {
		_, want, _ := checkDo(t, n, impl.Op{Kind: impl.OpTick})
		got := impl.Pays(n)
		if !slices.Equal(got, want) || len(got) != len(n.Out) {
			t.Errorf("Pays(%s) is %v", shown(n), got)
		}
		for i, m := range got {
			if !isMsg(m) || m.Id != n.Out[i].Id || m.To != n.Out[i].To || m.N != n.Out[i].N || m.Key != n.Out[i].Key {
				t.Errorf("of %v it is %v", n.Out[i], m)
			}
		}
	}
}

// chooser picks one number behind another, each made from the last one.
type chooser struct{ state uint32 }

func (c *chooser) below(n int) int {
	c.state = c.state*1664525 + 1013904223
	return int(c.state>>8) % n
}

func (c *chooser) msg(n impl.Node) impl.Msg {
	m := impl.Msg{Kind: c.below(3), From: c.below(6), To: n.Id}
	if c.below(20) == 0 {
		m.To = c.below(6)
	}
	if m.Kind != impl.MsgWant {
		m.Id = 1 + c.below(90)
	}
	if m.Kind == impl.MsgPay {
		m.Low = max(1, m.Id-c.below(60))
	}
	if m.Kind != impl.MsgAck {
		m.Key, m.N = "k"+strconv.Itoa(c.below(4)), 1+c.below(60)
	}
	return m
}

func (c *chooser) op(n impl.Node) impl.Op {
	op := impl.Op{Kind: c.below(7)}
	switch op.Kind {
	case impl.OpAdmit, impl.OpRelease:
		op.No = 1 + n.Old/2 + c.below(70)
	case impl.OpHear:
		op.Msg = c.msg(n)
	}
	if op.Kind == impl.OpMint || op.Kind == impl.OpAdmit || op.Kind == impl.OpWant || op.Kind == impl.OpBack {
		op.Key, op.N = "k"+strconv.Itoa(c.below(4)), 1+c.below(30)
	}
	if c.below(40) == 0 {
		op.N = []int{0, -1, most, most + 1}[c.below(4)]
	}
	return op
}

// wantHolding tells what a node has of a key behind an operation that was done.
func wantHolding(n impl.Node, op impl.Op, said []impl.Msg, key string) int {
	held := impl.Holding(n.Purses, key)
	if op.Kind == impl.OpMint && op.Key == key {
		held += op.N
	}
	if m := op.Msg; m.Kind == impl.MsgPay && m.Key == key {
		for _, s := range n.Seen {
			if s.From == m.From && m.Id >= s.Low && !slices.Contains(s.Ids, m.Id) {
				held += m.N
			}
		}
	}
	for _, m := range said {
		if m.Kind == impl.MsgPay && m.Key == key && op.Kind != impl.OpTick {
			held -= m.N
		}
	}
	return held
}

func TestManyOperationsInARow(t *testing.T) {
	done := [7]int{}
	for start := range uint32(60) {
		c := &chooser{start*2654435761 + 99}
		n, _ := impl.NodeNew(3, []int{-1, 1, 2}[start%3], []int{0, 4})
		for range 500 {
			op := c.op(n)
			next, said, code := checkDo(t, n, op)
			for i := range 4 {
				key := "k" + strconv.Itoa(i)
				want := impl.Holding(n.Purses, key)
				if code == impl.Done {
					want = wantHolding(n, op, said, key)
				}
				if got := impl.Holding(next.Purses, key); got != want {
					t.Fatalf("behind %v (%d) it has %d of %s, want %d", op, code, got, key, want)
				}
			}
			if code == impl.Done {
				done[op.Kind]++
			}
			n = next
		}
	}
	if slices.Min(done[:]) < 100 {
		t.Errorf("done were %v", done)
	}
}

// TestRequestsAreAnsweredAsTheyWere asks each request again behind every operation, as long as it is not released or stale.
func TestRequestsAreAnsweredAsTheyWere(t *testing.T) {
	asked := 0
	for start := range uint32(20) {
		c := &chooser{start*40503 + 7}
		n, _ := impl.NodeNew(3, -1, []int{0, 4})
		answers := map[impl.Op]int{}
		for range 300 {
			op := c.op(n)
			next, _, code := impl.NodeDo(n, op)
			if _, known := answers[op]; op.Kind == impl.OpAdmit && code < impl.Stale && !known {
				answers[op] = code
			}
			if op.Kind == impl.OpRelease && code == impl.Done {
				for other := range answers {
					if other.No == op.No {
						delete(answers, other)
					}
				}
			}
			n = next
			for op, was := range answers {
				same, _, code := impl.NodeDo(n, op)
				if op.No <= n.Old {
					was = impl.Stale
				}
				if code != was || !sameNode(same, n) {
					t.Fatalf("%v is answered %d, it was %d", op, code, was)
				}
				asked++
			}
		}
	}
	if asked < 10000 {
		t.Errorf("%d were asked", asked)
	}
}

// TestPaidTwiceIsTakenOnce has a parent, its kid and a net between them that loses, doubles and turns around.
func TestPaidTwiceIsTakenOnce(t *testing.T) {
	for start := range uint32(40) {
		c := &chooser{start*7919 + 3}
		top, _ := impl.NodeNew(0, -1, []int{1})
		kid, _ := impl.NodeNew(1, 0, nil)
		top, _, _ = impl.NodeDo(top, impl.Op{Kind: impl.OpMint, Key: "a", N: 5000})
		nodes := []impl.Node{top, kid}
		var net []impl.Msg
		do := func(at int, op impl.Op) int {
			next, said, code := checkDo(t, nodes[at], op)
			nodes[at], net = next, append(net, said...)
			return code
		}
		for range 600 {
			switch c.below(8) {
			case 0:
				do(1, impl.Op{Kind: impl.OpWant, Key: "a", N: 1 + c.below(50)})
			case 1:
				do(1, impl.Op{Kind: impl.OpBack, Key: "a", N: 1 + c.below(50)})
			case 2:
				do(c.below(2), impl.Op{Kind: impl.OpTick})
			}
			if len(net) == 0 {
				continue
			}
			at := c.below(len(net))
			switch c.below(6) {
			case 0:
				net = slices.Delete(net, at, at+1)
			case 1:
				do(net[at].To, impl.Op{Kind: impl.OpHear, Msg: net[at]})
			default:
				m := net[at]
				net = slices.Delete(net, at, at+1)
				do(m.To, impl.Op{Kind: impl.OpHear, Msg: m})
			}
			net = net[max(0, len(net)-60):]
		}
		for range 100 {
			do(0, impl.Op{Kind: impl.OpTick})
			do(1, impl.Op{Kind: impl.OpTick})
			for len(net) > 0 {
				m := net[0]
				net = net[1:]
				do(m.To, impl.Op{Kind: impl.OpHear, Msg: m})
			}
			if len(nodes[0].Out)+len(nodes[1].Out) == 0 {
				break
			}
		}
		held := impl.Holding(nodes[0].Purses, "a") + impl.Holding(nodes[1].Purses, "a")
		if len(nodes[0].Out)+len(nodes[1].Out) != 0 || held != 5000 || nodes[0].Next < 5 || nodes[1].Next < 5 {
			t.Fatalf("of 5000 there are %d: %v", held, nodes)
		}
	}
}

func TestNodesWriteIntoNothing(t *testing.T) {
	for i, n := range slices.Concat(rightNodes(), wrongNodes()) {
		// Each node has its own few of the operations, since all of them would take long.
		step := 53
		if !impl.NodeOk(n) {
			step = 1999
		}
		for k, op := range someOps(n) {
			if (k+i)%step != 0 {
				continue
			}
			given := cloneNode(n)
			before := withRoom(given)
			got, said, code := impl.NodeDo(given, op)
			want, wantSaid := fmt.Sprint(got), fmt.Sprint(said)
			impl.NodeOk(given)
			spoil(impl.Pays(given))
			spoil(said)
			spoilNode(got)
			if withRoom(given) != before {
				t.Fatalf("%s was written into by %s", shown(n), shown(op))
			}
			if again, saidAgain, codeAgain := impl.NodeDo(given, op); fmt.Sprint(again) != want || fmt.Sprint(saidAgain) != wantSaid || codeAgain != code {
				t.Fatalf("%s of %s: asked again, it is %s", shown(op), shown(n), shown(again))
			}
		}
	}
	kids := []int{1, 2, 3, 77}
	n, _ := impl.NodeNew(0, -1, kids[:3])
	spoilNode(n)
	if !slices.Equal(kids, []int{1, 2, 3, 77}) {
		t.Errorf("the kids were written into: %v", kids)
	}
}

func spoil(list []impl.Msg) {
	for i := range list {
		list[i] = impl.Msg{Kind: -5, Key: "written"}
	}
	_ = append(list, impl.Msg{Key: "behind"})
}

// spoilNode writes into all lists of a node, and behind them.
func spoilNode(n impl.Node) {
	for i := range n.Kids {
		n.Kids[i] = -5
	}
	for i := range n.Purses {
		n.Purses[i] = impl.Purse{Key: "written"}
	}
	for i := range n.Out {
		n.Out[i] = impl.Sent{Key: "written"}
	}
	for i := range n.Seen {
		for k := range n.Seen[i].Ids {
			n.Seen[i].Ids[k] = -5
		}
		_ = append(n.Seen[i].Ids, -6)
		n.Seen[i] = impl.Seen{From: -5}
	}
	for i := range n.Reqs {
		n.Reqs[i] = impl.Req{Key: "written"}
	}
	_ = append(n.Kids, -6)
	_ = append(n.Purses, impl.Purse{Key: "behind"})
	_ = append(n.Out, impl.Sent{Key: "behind"})
	_ = append(n.Seen, impl.Seen{From: -6})
	_ = append(n.Reqs, impl.Req{Key: "behind"})
}

// textsOf has all texts of a node.
func textsOf(n impl.Node) []string {
	var list []string
	for _, p := range n.Purses {
		list = append(list, p.Key)
	}
	for _, s := range n.Out {
		list = append(list, s.Key)
	}
	for _, r := range n.Reqs {
		list = append(list, r.Key)
	}
	return list
}

func TestNodesShareNoMemory(t *testing.T) {
	ops := []impl.Op{{Kind: impl.OpMint, Key: "a", N: 1}, {Kind: impl.OpMint, Key: "new", N: 1}, {Kind: impl.OpAdmit, No: 6, Key: "a", N: 1},
		{Kind: impl.OpAdmit, No: 6, Key: "new", N: 1}, {Kind: impl.OpRelease, No: 3}, {Kind: impl.OpWant, Key: "a", N: 1},
		{Kind: impl.OpBack, Key: "a", N: 1}, {Kind: impl.OpTick}, {Kind: 7, Key: "a"}, {Kind: impl.OpAdmit, No: 2, Key: "a", N: 1},
		{Kind: impl.OpHear, Msg: impl.Msg{From: 1, To: 5, Key: "a", N: 1}}, {Kind: impl.OpHear, Msg: impl.Msg{Kind: impl.MsgAck, From: 7, To: 5, Id: 4}},
		{Kind: impl.OpHear, Msg: impl.Msg{Kind: impl.MsgPay, From: 1, To: 5, Id: 9, Low: 2, Key: "new", N: 1}},
		{Kind: impl.OpHear, Msg: impl.Msg{Kind: impl.MsgPay, From: 2, To: 5, Id: 9, Low: 2, Key: "a", N: 1}}}
	wrong := inTheMiddle()
	wrong.Next = 0
	for _, n := range []impl.Node{inTheMiddle(), onTop(), wrong} {
		for _, op := range ops {
			op.Key, op.Msg.Key = strings.Clone(op.Key), strings.Clone(op.Msg.Key)
			got, said, code := impl.NodeDo(n, op)
			given := append(textsOf(n), op.Key, op.Msg.Key)
			answered := textsOf(got)
			for _, m := range append(said, impl.Pays(n)...) {
				answered = append(answered, m.Key)
			}
			for i, text := range answered {
				for _, other := range append(given, answered[:i]...) {
					if sharesText(text, other) {
						t.Errorf("NodeDo of %v (%d): the text %q is shared", op, code, text)
					}
				}
			}
		}
	}
}
