package tests

import (
	"encoding/binary"
	"fmt"
	"math"
	"slices"
	"strconv"
	"strings"
	"testing"
	"unsafe"

	"loop.example/g00264/impl"
)

// rightOps has operations of each kind, at the edges of all that they have.
func rightOps() []impl.Op {
	ops := []impl.Op{{Kind: impl.OpTick}}
	numbers := []int{1, 2, 127, 128, 16383, 16384, most - 1, most}
	for _, number := range numbers {
		ops = append(ops, impl.Op{Kind: impl.OpRelease, No: number})
		for _, key := range []string{"k", "0", "key1", "0123456789", "zzzzzzzzzz"} {
			for _, kind := range []int{impl.OpMint, impl.OpWant, impl.OpBack} {
				ops = append(ops, impl.Op{Kind: kind, Key: key, N: number})
			}
			for _, no := range numbers {
				ops = append(ops, impl.Op{Kind: impl.OpAdmit, No: no, Key: key, N: number})
			}
		}
	}
	for i, m := range rightMsgs() {
		if i%3 == 0 {
			ops = append(ops, impl.Op{Kind: impl.OpHear, Msg: m})
		}
	}
	return ops
}

// changedOps has an operation with each of what it has put to other values, one at a time.
func changedOps(op impl.Op) []impl.Op {
	var list []impl.Op
	add := func(change func(*impl.Op)) {
		changed := op
		change(&changed)
		list = append(list, changed)
	}
	for _, n := range []int{math.MinInt, -1, 0, 1, 2, 3, 4, 5, 6, 7, 255, 256, 262, most, most + 1, 4000000000, 4000000001, 1 << 32, math.MaxInt} {
		add(func(op *impl.Op) { op.Kind = n })
		add(func(op *impl.Op) { op.No = n })
		add(func(op *impl.Op) { op.N = n })
		add(func(op *impl.Op) { op.Msg.Kind = n })
		add(func(op *impl.Op) { op.Msg.From = n })
		add(func(op *impl.Op) { op.Msg.To = n })
		add(func(op *impl.Op) { op.Msg.Id = n })
		add(func(op *impl.Op) { op.Msg.Low = n })
		add(func(op *impl.Op) { op.Msg.N = n })
	}
	for _, key := range slices.Concat(someKeys(), noKeys()) {
		add(func(op *impl.Op) { op.Key = key })
		add(func(op *impl.Op) { op.Msg.Key = key })
	}
	add(func(op *impl.Op) { op.Msg = impl.Msg{} })
	add(func(op *impl.Op) { op.Msg = impl.Msg{Kind: impl.MsgAck, From: 1, To: 2, Id: 3} })
	add(func(op *impl.Op) { op.Msg = impl.Msg{Kind: impl.MsgWant, From: 1, To: 2, Key: "k", N: 3} })
	add(func(op *impl.Op) { op.Key, op.N = "k", 1 })
	add(func(op *impl.Op) { op.No, op.Key, op.N = 1, "k", 1 })
	return list
}

// opParts puts an operation into bytes without asking whether it is one; a number below 0 counts as 0.
func opParts(op impl.Op) []string {
	msg := ""
	if op.Msg != (impl.Msg{}) {
		msg = bytesOf(op.Msg)
	}
	number := func(n int) string { return string(binary.AppendUvarint(nil, uint64(max(n, 0)))) }
	return []string{string([]byte{byte(op.Kind)}), number(op.No), number(len(op.Key)), op.Key, number(op.N), number(len(msg)), msg}
}

func opBytes(op impl.Op) string { return strings.Join(opParts(op), "") }

// opOfText reads what OpText tells of an operation.
func opOfText(text string) impl.Op {
	words := strings.Split(text, " ")
	number := func(at int) int {
		n, err := strconv.Atoi(words[at])
		if err != nil || strconv.Itoa(n) != words[at] {
			return -1
		}
		return n
	}
	shape := words[0] + strconv.Itoa(len(words))
	switch shape {
	case "mint3":
		return impl.Op{Kind: 0, Key: words[1], N: number(2)}
	case "admit4":
		return impl.Op{Kind: 1, No: number(1), Key: words[2], N: number(3)}
	case "release2":
		return impl.Op{Kind: 2, No: number(1)}
	case "want3":
		return impl.Op{Kind: 3, Key: words[1], N: number(2)}
	case "back3":
		return impl.Op{Kind: 4, Key: words[1], N: number(2)}
	case "tick1":
		return impl.Op{Kind: 5}
	}
	if words[0] != "hear" || len(words) < 6 || words[3] != ">" {
		return impl.Op{Kind: -1}
	}
	m := impl.Msg{From: number(2), To: number(4)}
	switch words[1] + strconv.Itoa(len(words)) {
	case "want7":
		m.Key, m.N = words[5], number(6)
	case "pay9":
		m.Kind, m.Id, m.Low, m.Key, m.N = 1, number(5), number(6), words[7], number(8)
	case "ack6":
		m.Kind, m.Id = 2, number(5)
	}
	return impl.Op{Kind: 6, Msg: m}
}

func wantNoOp(t *testing.T, s string) {
	t.Helper()
	if op, ok := impl.GetOp(s); ok || op != (impl.Op{}) {
		t.Fatalf("GetOp(%.60q) = %s, %v, want nothing", s, shown(op), ok)
	}
}

// wantRead asks for just these operations, with end for the place behind them.
func wantRead(t *testing.T, log string, want []impl.Op, end int) {
	t.Helper()
	got, at := impl.Read(log)
	if at != end || !slices.Equal(got, want) {
		t.Fatalf("Read(%.60q) of %d bytes = %d operations up to %d, want %d up to %d", log, len(log), len(got), at, len(want), end)
	}
}

// journalOf writes operations down, and tells behind which byte each one ends.
func journalOf(t *testing.T, ops []impl.Op) (string, []int) {
	t.Helper()
	log, ends := "", []int{}
	for _, op := range ops {
		next, ok := impl.Write(log, op)
		if !ok || next != log+frameOf(opBytes(op)) {
			t.Fatalf("Write of %v behind %d bytes: %q, %v", op, len(log), next[min(len(log), len(next)):], ok)
		}
		log = next
		ends = append(ends, len(log))
	}
	return log, ends
}

// fewOps has one operation or two of each kind.
func fewOps() []impl.Op {
	return []impl.Op{
		{Kind: impl.OpMint, Key: "a", N: 40}, {Kind: impl.OpAdmit, No: 10, Key: "a", N: 3}, {Kind: impl.OpAdmit, No: 300, Key: "0123456789", N: most},
		{Kind: impl.OpRelease, No: 10}, {Kind: impl.OpWant, Key: "a", N: 128}, {Kind: impl.OpTick}, {Kind: impl.OpBack, Key: "a", N: 2},
		{Kind: impl.OpHear, Msg: impl.Msg{Kind: impl.MsgWant, From: 1, To: 5, Key: "a", N: 2}}, {Kind: impl.OpTick},
		{Kind: impl.OpHear, Msg: impl.Msg{Kind: impl.MsgPay, From: 2, To: 5, Id: most, Low: 7, Key: "new", N: 300}},
		{Kind: impl.OpHear, Msg: impl.Msg{Kind: impl.MsgAck, From: 7, To: 5, Id: 4}}, {Kind: impl.OpMint, Key: "b", N: most},
	}
}

func TestOpBytesAndTexts(t *testing.T) {
	for _, c := range []struct {
		op          impl.Op
		bytes, text string
	}{
		{impl.Op{Kind: impl.OpMint, Key: "a", N: 10}, "\x00\x00\x01a\x0a\x00", "mint a 10"},
		{impl.Op{Kind: impl.OpAdmit, No: 300, Key: "k1", N: 128}, "\x01\xac\x02\x02k1\x80\x01\x00", "admit 300 k1 128"},
		{impl.Op{Kind: impl.OpRelease, No: most}, "\x02\x80\x94\xeb\xdc\x03\x00\x00\x00", "release 1000000000"},
		{impl.Op{Kind: impl.OpWant, Key: "0123456789", N: most}, "\x03\x00\x0a0123456789\x80\x94\xeb\xdc\x03\x00", "want 0123456789 1000000000"},
		{impl.Op{Kind: impl.OpBack, Key: "z", N: 1}, "\x04\x00\x01z\x01\x00", "back z 1"},
		{impl.Op{Kind: impl.OpTick}, "\x05\x00\x00\x00\x00", "tick"},
		{impl.Op{Kind: impl.OpHear, Msg: impl.Msg{Kind: impl.MsgWant, From: 2, To: 1, Key: "k", N: 5}},
			"\x06\x00\x00\x00\x08\x00\x02\x01\x00\x00\x01k\x05", "hear want 2 > 1 k 5"},
		{impl.Op{Kind: impl.OpHear, Msg: impl.Msg{Kind: impl.MsgPay, From: 0, To: 29, Id: 300, Low: 7, Key: "a0", N: 128}},
			"\x06\x00\x00\x00\x0b\x01\x00\x1d\xac\x02\x07\x02a0\x80\x01", "hear pay 0 > 29 300 7 a0 128"},
		{impl.Op{Kind: impl.OpHear, Msg: impl.Msg{Kind: impl.MsgAck, From: 11, To: 10, Id: 1}},
			"\x06\x00\x00\x00\x07\x02\x0b\x0a\x01\x00\x00\x00", "hear ack 11 > 10 1"},
	} {
		if got := impl.PutOp(c.op); got != c.bytes || !impl.OpOk(c.op) {
			t.Errorf("PutOp(%v) = %q, want %q", c.op, got, c.bytes)
		}
		if got := impl.OpText(c.op); got != c.text {
			t.Errorf("OpText(%v) = %q, want %q", c.op, got, c.text)
		}
		log, ok := impl.Write("", c.op)
		if !ok || log != frameOf(c.bytes) {
			t.Errorf("Write of %v = %q, %v", c.op, log, ok)
		}
	}
	log, ok := impl.Write("xyz", impl.Op{Kind: impl.OpTick})
	if !ok || log != "xyz\x00\x1e\x00\x06\x05\x05\x00\x00\x00\x00" {
		t.Errorf("Write behind what is no journal = %q, %v", log, ok)
	}
}

func TestOpComesBack(t *testing.T) {
	texts := map[string]bool{}
	for _, op := range rightOps() {
		if !isOp(op) || !impl.OpOk(op) {
			t.Fatalf("%v is an operation", op)
		}
		if got, ok := impl.GetOp(impl.PutOp(op)); !ok || got != op {
			t.Fatalf("GetOp of the bytes of %v = %v, %v", op, got, ok)
		}
		text := impl.OpText(op)
		if opOfText(text) != op || texts[text] {
			t.Fatalf("the text of %v is %q", op, text)
		}
		texts[text] = true
		log, ok := impl.Write("", op)
		if !ok {
			t.Fatalf("%v is not written", op)
		}
		wantRead(t, log, []impl.Op{op}, len(log))
	}
}

// TestChangedOps has operations with what their kind has not, too little of it, and numbers and keys that are none.
func TestChangedOps(t *testing.T) {
	log, _ := journalOf(t, fewOps())
	right, wrong := [7]int{}, [7]int{}
	for i, op := range rightOps() {
		if i%5 != 0 {
			continue
		}
		for _, changed := range changedOps(op) {
			bytes, text := impl.PutOp(changed), impl.OpText(changed)
			written, ok := impl.Write(log, changed)
			if isOp(changed) {
				right[op.Kind]++
				if !impl.OpOk(changed) || bytes != opBytes(changed) || opOfText(text) != changed || !ok || written != log+frameOf(bytes) {
					t.Fatalf("%s is an operation: %q, %q, %v", shown(changed), bytes, text, ok)
				}
				continue
			}
			wrong[op.Kind]++
			if impl.OpOk(changed) || bytes != "" || text != "" || ok || written != log {
				t.Fatalf("%s is no operation: %q, %q, %v", shown(changed), bytes, text, ok)
			}
		}
	}
	if slices.Min(wrong[:]) < 100 || slices.Min(right[:]) < 1 {
		t.Errorf("%v right ones and %v wrong ones are few", right, wrong)
	}
}

func TestOpsWithWhatTheirKindHasNot(t *testing.T) {
	msg := impl.Msg{Kind: impl.MsgAck, From: 1, To: 2, Id: 3}
	for _, op := range []impl.Op{
		{}, {Kind: 7}, {Kind: -1}, {Kind: 256, Key: "a", N: 1}, {Kind: 261}, {Kind: math.MinInt}, {Kind: math.MaxInt},
		{Kind: impl.OpMint, Key: "a", N: 1, No: 1}, {Kind: impl.OpMint, Key: "a", N: 1, Msg: msg}, {Kind: impl.OpMint, Key: "a"}, {Kind: impl.OpMint, N: 1},
		{Kind: impl.OpWant, Key: "a", N: 1, No: 1}, {Kind: impl.OpWant, Key: "a", N: 1, Msg: msg}, {Kind: impl.OpWant, Key: "a", N: 1, No: -1},
		{Kind: impl.OpBack, Key: "a", N: 1, No: 1}, {Kind: impl.OpBack, Key: "a", N: 1, Msg: msg}, {Kind: impl.OpBack, Key: "a", N: 1, Msg: impl.Msg{N: 1}},
		{Kind: impl.OpAdmit, Key: "a", N: 1}, {Kind: impl.OpAdmit, No: 1, N: 1}, {Kind: impl.OpAdmit, No: 1, Key: "a"}, {Kind: impl.OpAdmit, No: 1, Key: "a", N: 1, Msg: msg},
		{Kind: impl.OpRelease}, {Kind: impl.OpRelease, No: 1, Key: "a"}, {Kind: impl.OpRelease, No: 1, N: 1}, {Kind: impl.OpRelease, No: 1, Msg: msg}, {Kind: impl.OpRelease, No: 1, Key: "A"},
		{Kind: impl.OpTick, No: 1}, {Kind: impl.OpTick, Key: "a"}, {Kind: impl.OpTick, N: 1}, {Kind: impl.OpTick, Msg: msg}, {Kind: impl.OpTick, Msg: impl.Msg{Key: "a"}},
		{Kind: impl.OpHear}, {Kind: impl.OpHear, Key: "a", N: 1}, {Kind: impl.OpHear, Msg: msg, No: 1}, {Kind: impl.OpHear, Msg: msg, Key: "a"}, {Kind: impl.OpHear, Msg: msg, N: 1},
		{Kind: impl.OpHear, Msg: impl.Msg{Kind: impl.MsgAck, From: 1, To: 1, Id: 3}}, {Kind: impl.OpHear, Msg: impl.Msg{Kind: impl.MsgAck, From: 1, To: 30, Id: 3}},
		{Kind: impl.OpHear, Msg: impl.Msg{Kind: impl.MsgAck, From: 1, To: 2, Id: 3, N: 4}},
	} {
		log, ok := impl.Write("log", op)
		if impl.OpOk(op) || impl.PutOp(op) != "" || impl.OpText(op) != "" || ok || log != "log" {
			t.Errorf("%v is no operation: %q, %q, %q, %v", op, impl.PutOp(op), impl.OpText(op), log, ok)
		}
		if op.Kind >= 0 && op.Kind < 256 && op.No >= 0 {
			wantNoOp(t, opBytes(op))
			wantRead(t, frameOf(opBytes(op)), nil, 0)
		}
	}
}

func TestOpThatIsCutOrHasMore(t *testing.T) {
	for i, op := range rightOps() {
		if i%5 != 0 {
			continue
		}
		bytes := impl.PutOp(op)
		for at := range len(bytes) {
			wantNoOp(t, bytes[:at])
			wantNoOp(t, bytes[at+1:])
			// A sum that is right does not make a whole operation of a piece.
			wantRead(t, frameOf(bytes[:at]), nil, 0)
		}
		for b := range 256 {
			more := string([]byte{byte(b)})
			wantNoOp(t, bytes+more)
			wantRead(t, frameOf(bytes+more), nil, 0)
		}
		wantNoOp(t, bytes+bytes)
		wantNoOp(t, frameOf(bytes))
		wantNoOp(t, impl.PutText(bytes))
		wantNoOp(t, bytes+strings.Repeat("\x00", 70000))
	}
}

// TestOpWithOneByteChanged holds what is told against what PutOp gives: a changed byte may make another operation.
func TestOpWithOneByteChanged(t *testing.T) {
	told, untold := 0, 0
	for i, op := range rightOps() {
		if i%9 != 0 {
			continue
		}
		bytes := impl.PutOp(op)
		for at := range len(bytes) {
			for b := range 256 {
				changed := withByte(bytes, at, b)
				got, ok := impl.GetOp(changed)
				if !ok {
					untold++
					wantNoOp(t, changed)
					continue
				}
				told++
				if !isOp(got) || impl.PutOp(got) != changed || opBytes(got) != changed {
					t.Fatalf("GetOp(%q) = %v", changed, got)
				}
			}
		}
	}
	if told < 1000 || untold < 1000 {
		t.Errorf("%d told and %d untold are few", told, untold)
	}
}

func TestOpWithNeedlessBytes(t *testing.T) {
	for _, op := range rightOps() {
		parts := opParts(op)
		for _, at := range []int{1, 2, 4, 5} {
			changed := slices.Clone(parts)
			last := len(changed[at]) - 1
			changed[at] = changed[at][:last] + string([]byte{changed[at][last] + 128}) + "\x00"
			wantNoOp(t, strings.Join(changed, ""))
			wantRead(t, frameOf(strings.Join(changed, "")), nil, 0)
		}
	}
}

// TestBytesOfWhatIsNoOp gives bytes, with a right sum, that no operation has.
func TestBytesOfWhatIsNoOp(t *testing.T) {
	tried := 0
	for i, op := range rightOps() {
		if i%11 != 0 {
			continue
		}
		for _, changed := range changedOps(op) {
			bytes := opBytes(changed)
			if got, ok := impl.GetOp(bytes); ok && (!isOp(got) || opBytes(got) != bytes) {
				t.Fatalf("GetOp of the bytes of %s = %v", shown(changed), got)
			}
			m := changed.Msg
			least := min(changed.Kind, changed.No, changed.N, m.Kind, m.From, m.To, m.Id, m.Low, m.N)
			if isOp(changed) || least < 0 || max(changed.Kind, m.Kind) > 255 {
				continue
			}
			tried++
			wantNoOp(t, bytes)
			if len(bytes) <= 1000 {
				wantRead(t, frameOf(bytes), nil, 0)
			}
		}
	}
	if tried < 1000 {
		t.Errorf("%d are few", tried)
	}
}

func TestOpsOfOtherTexts(t *testing.T) {
	wantNoOp(t, "")
	for _, text := range []string{"\x05", "tick", "mint a 10", "\x07\x00\x00\x00\x00", "\xff\x00\x00\x00\x00", strings.Repeat("\x00", 5), strings.Repeat("\xff", 40), strings.Repeat("\x05", 1000000)} {
		wantNoOp(t, text)
		wantRead(t, text, nil, 0)
	}
	for _, m := range rightMsgs() {
		wantNoOp(t, impl.PutMsg(m))
		wantNoOp(t, impl.Frame(m))
		wantRead(t, impl.Frame(m), nil, 0)
	}
}

// TestAnyShortOpBytes makes bytes out of a few values that operations have, so that some of them are operations.
func TestAnyShortOpBytes(t *testing.T) {
	c, told := &chooser{7}, [7]int{}
	const values = "\x00\x00\x00\x01\x01\x02\x03\x05k\x80"
	for i := range 1000000 {
		bytes := make([]byte, 5+c.below(3)*c.below(4))
		for i := range bytes {
			bytes[i] = values[c.below(len(values))]
		}
		bytes[0] = byte(i % 8)
		if i%8 == impl.OpHear {
			bytes = append([]byte{6, 0, 0, 0, byte(len(bytes))}, bytes...)
			bytes[5] = byte(c.below(3))
		}
		op, ok := impl.GetOp(string(bytes))
		if !ok {
			if op != (impl.Op{}) {
				t.Fatalf("GetOp(%q) = %v, false", bytes, op)
			}
			continue
		}
		told[op.Kind]++
		if !isOp(op) || opBytes(op) != string(bytes) {
			t.Fatalf("GetOp(%q) = %v", bytes, op)
		}
	}
	if slices.Min(told[:]) < 10 {
		t.Errorf("%v operations are few", told)
	}
}

func TestJournalThatIsCutOff(t *testing.T) {
	all := rightOps()
	lists := [][]impl.Op{nil, {{Kind: impl.OpTick}}, fewOps()}
	for start := range 6 {
		var ops []impl.Op
		for i := start; i < len(all); i += 97 {
			ops = append(ops, all[i])
		}
		lists = append(lists, ops)
	}
	for _, ops := range lists {
		log, ends := journalOf(t, ops)
		for cut := range len(log) + 1 {
			whole, end := 0, 0
			for whole < len(ends) && ends[whole] <= cut {
				end = ends[whole]
				whole++
			}
			wantRead(t, log[:cut], ops[:whole], end)
			for _, behind := range []string{"\x00", "xyz", strings.Repeat("\xff", 2000)} {
				if whole == len(ops) || !strings.HasPrefix(log[cut:], behind[:1]) {
					wantRead(t, log[:cut]+behind, ops[:whole], end)
				}
			}
		}
	}
}

// TestJournalWithOneByteChanged has right operations behind the changed one, which are not read any more.
func TestJournalWithOneByteChanged(t *testing.T) {
	ops := fewOps()
	log, ends := journalOf(t, ops)
	check := func(changed string) {
		t.Helper()
		at := 0
		for at < len(changed) && changed[at] == log[at] {
			at++
		}
		whole, end := 0, 0
		for ends[whole] <= at {
			end = ends[whole]
			whole++
		}
		wantRead(t, changed, ops[:whole], end)
	}
	for at := range len(log) {
		for b := range 256 {
			if changed := withByte(log, at, b); changed != log {
				check(changed)
			}
		}
		check(log[:at] + log[at+1:])
		check(log[:at] + "!" + log[at:])
	}
}

// TestJournalWithWhatIsNoOp has whole entries with a right sum in which no operation stands.
func TestJournalWithWhatIsNoOp(t *testing.T) {
	ops := fewOps()
	log, _ := journalOf(t, ops)
	for _, text := range []string{"", "x", "tick", "\x05\x00\x00\x00", "\x05\x00\x00\x00\x00\x00", "\x05\x00\x00\x01\x00", "\x07\x00\x00\x00\x00", "\x06\x00\x00\x00\x00", "\x05\x00\x00\x00\x01x",
		"\x00\x00\x01A\x01\x00", "\x05\x00\x00\x00\x07\x02\x0b\x0a\x01\x00\x00\x00", opBytes(ops[0]) + opBytes(ops[1]), strings.Repeat("x", 1000)} {
		wantNoOp(t, text)
		wantRead(t, frameOf(text), nil, 0)
		wantRead(t, frameOf(text)+log, nil, 0)
		wantRead(t, log+frameOf(text), ops, len(log))
		wantRead(t, log+frameOf(text)+log, ops, len(log))
	}
	wantRead(t, "x"+log, nil, 0)
	wantRead(t, log+log, slices.Concat(ops, ops), 2*len(log))
}

// filledLog has just so many bytes: ticks, of ten bytes each, and ahead of them a mint that is longer by the rest.
func filledLog(size int) (string, int) {
	first := impl.Op{Kind: impl.OpTick}
	if rest := size % 10; rest > 0 {
		first = impl.Op{Kind: impl.OpMint, Key: strings.Repeat("k", rest), N: 1}
	}
	return frameOf(opBytes(first)) + strings.Repeat(frameOf(opBytes(impl.Op{Kind: impl.OpTick})), size/10-1), size / 10
}

func TestJournalThatIsFull(t *testing.T) {
	tick := impl.Op{Kind: impl.OpTick}
	for size := impl.MaxJournal - 21; size <= impl.MaxJournal+12; size++ {
		log, count := filledLog(size)
		if len(log) != size {
			t.Fatalf("it has %d bytes, and not %d", len(log), size)
		}
		for range 3 {
			if len(log) > impl.MaxJournal {
				wantRead(t, log, nil, 0)
			} else if got, end := impl.Read(log); len(got) != count || end != len(log) {
				t.Fatalf("of a journal of %d bytes with %d operations %d are read, up to %d", len(log), count, len(got), end)
			}
			next, ok := impl.Write(log, tick)
			if want := len(log)+10 <= impl.MaxJournal; ok != want || !ok && next != log || ok && next != log+frameOf(opBytes(tick)) {
				t.Fatalf("Write behind %d bytes: %d, %v", len(log), len(next), ok)
			}
			if !ok {
				break
			}
			log, count = next, count+1
		}
	}
	// The limit is that of the whole text, also where it is no journal.
	for _, size := range []int{59989, 59990, 59991, 60000, 60001, 200000} {
		log := strings.Repeat("x", size)
		next, ok := impl.Write(log, tick)
		if want := size+10 <= impl.MaxJournal; ok != want || !strings.HasPrefix(next, log) || ok != (len(next) > len(log)) {
			t.Errorf("Write behind %d other bytes: %d, %v", size, len(next), ok)
		}
	}
	// A right beginning does not help where there is more than there may be.
	log, _ := journalOf(t, fewOps())
	wantRead(t, log+strings.Repeat("x", impl.MaxJournal-len(log)), fewOps(), len(log))
	wantRead(t, log+strings.Repeat("x", impl.MaxJournal-len(log)+1), nil, 0)
}

// doneOneByOne is what NodeDo makes of a node.
func doneOneByOne(t *testing.T, n impl.Node, ops []impl.Op) impl.Node {
	t.Helper()
	for _, op := range ops {
		n, _, _ = checkDo(t, n, op)
	}
	return n
}

func wantReplay(t *testing.T, n impl.Node, log string, want impl.Node) {
	t.Helper()
	if got := impl.Replay(n, log); !sameNode(got, want) {
		t.Fatalf("Replay of %s by %d bytes is\n%s, want\n%s", shown(n), len(log), shown(got), shown(want))
	}
}

func TestReplayValues(t *testing.T) {
	n, _ := impl.NodeNew(0, -1, []int{1})
	log, ends := journalOf(t, []impl.Op{
		{Kind: impl.OpMint, Key: "a", N: 10},
		{Kind: impl.OpAdmit, No: 3, Key: "a", N: 4},
		{Kind: impl.OpHear, Msg: impl.Msg{Kind: impl.MsgWant, From: 1, To: 0, Key: "a", N: 9}},
		{Kind: impl.OpHear, Msg: impl.Msg{Kind: impl.MsgWant, From: 2, To: 0, Key: "a", N: 1}},
		{Kind: impl.OpRelease, No: 3},
	})
	made := impl.Node{Parent: -1, Kids: []int{1}, Next: 1, Seen: []impl.Seen{{From: 1, Low: 1}}}
	wantReplay(t, n, "", made)
	made.Purses = []impl.Purse{{Key: "a", Minted: 10, Free: 10}}
	wantReplay(t, n, log[:ends[0]], made)
	made.Purses[0].Free, made.Purses[0].Spent, made.Reqs = 6, 4, reqsOf(0, "a", 4, 3)
	wantReplay(t, n, log[:ends[1]], made)
	made.Purses[0].Free, made.Next, made.Out = 0, 2, sentTo(1, "a", 6, 1)
	wantReplay(t, n, log[:ends[2]], made)
	// From one that is no neighbour nothing is heard, and what follows is done all the same.
	wantReplay(t, n, log[:ends[3]], made)
	wantReplay(t, n, log[:ends[4]-1], made)
	made.Purses[0].Free, made.Purses[0].Spent, made.Reqs = 4, 0, reqsOf(2, "a", 4, 3)
	wantReplay(t, n, log, made)
	wantReplay(t, n, log+"xyz", made)
}

func TestReplayIsOneByOne(t *testing.T) {
	for i, n := range rightNodes() {
		c := &chooser{uint32(i) * 7919}
		var ops []impl.Op
		for len(ops) < 60 {
			if op := c.op(n); isOp(op) {
				ops = append(ops, op)
			}
		}
		for k, op := range someOps(n) {
			if (k+i)%71 == 0 && isOp(op) {
				ops = append(ops, op)
			}
		}
		log, ends := journalOf(t, ops)
		want := doneOneByOne(t, n, ops)
		wantReplay(t, n, log, want)
		wantReplay(t, n, log[:len(log)-1], doneOneByOne(t, n, ops[:len(ops)-1]))
		wantReplay(t, n, log[:ends[20]]+"\x00"+log[ends[20]:], doneOneByOne(t, n, ops[:21]))
		// In two parts it comes to the same, wherever an operation ends.
		for _, end := range append([]int{0}, ends...) {
			wantReplay(t, impl.Replay(n, log[:end]), log[end:], want)
		}
	}
}

// TestReplayOfManyRows has long journals of a node in which much is done.
func TestReplayOfManyRows(t *testing.T) {
	for start := range uint32(20) {
		c := &chooser{start*2654435761 + 5}
		first, _ := impl.NodeNew(3, []int{-1, 1, 2}[start%3], []int{0, 4})
		n, log, cut := first, "", 0
		for i := range 300 {
			op := c.op(n)
			next, ok := impl.Write(log, op)
			if ok != isOp(op) {
				t.Fatalf("%v is written: %v", op, ok)
			}
			n, _, _ = impl.NodeDo(n, op)
			log = next
			if i == 100 {
				cut = len(log)
			}
			if i%20 == 0 {
				wantReplay(t, first, log, n)
			}
		}
		wantReplay(t, impl.Replay(first, log[:cut]), log[cut:], n)
	}
}

func TestReplayOfWhatIsWrong(t *testing.T) {
	log, _ := journalOf(t, fewOps())
	for _, n := range wrongNodes() {
		wantReplay(t, n, log, n)
		wantReplay(t, n, "", n)
	}
	full, count := filledLog(impl.MaxJournal)
	more, _ := filledLog(impl.MaxJournal + 1)
	for _, n := range rightNodes() {
		wantReplay(t, n, "", n)
		wantReplay(t, n, "x"+log, n)
		wantReplay(t, n, more, n)
		wantReplay(t, n, log+strings.Repeat("x", impl.MaxJournal), n)
	}
	if count != 6000 {
		t.Fatalf("the full journal has %d operations", count)
	}
	n, _ := impl.NodeNew(0, -1, nil)
	wantReplay(t, n, full, n)
	mint := strings.Repeat(frameOf(opBytes(impl.Op{Kind: impl.OpMint, Key: "k", N: 1})), 5000)
	if got := impl.Holding(impl.Replay(n, mint).Purses, "k"); got != 5000 {
		t.Errorf("of 5000 mints there are %d", got)
	}
}

func TestJournalSharesNoMemory(t *testing.T) {
	log, _ := journalOf(t, fewOps())
	list, _ := impl.Read(log)
	var keys []string
	for _, op := range list {
		keys = append(keys, op.Key, op.Msg.Key)
	}
	n := inTheMiddle()
	keys = append(keys, textsOf(impl.Replay(n, log))...)
	for _, key := range textsOf(n) {
		for _, other := range keys {
			if sharesText(key, other) {
				t.Errorf("the node's key %q is shared", key)
			}
		}
	}
	for i, key := range keys {
		if liesIn(key, log) {
			t.Errorf("the key %q lies in the journal", key)
		}
		for _, other := range keys[:i] {
			if sharesText(key, other) {
				t.Errorf("two keys %q are one", key)
			}
		}
	}
	for _, op := range append(fewOps(), impl.Op{Kind: 9, Key: "key"}) {
		op.Key, op.Msg.Key = strings.Clone(op.Key), strings.Clone(op.Msg.Key)
		bytes, text := impl.PutOp(op), impl.OpText(op)
		written, ok := impl.Write(log, op)
		fresh, _ := impl.Write("", op)
		for _, key := range []string{op.Key, op.Msg.Key} {
			if liesIn(key, bytes) || liesIn(key, text) || liesIn(key, written) || liesIn(key, fresh) {
				t.Errorf("what is told of %v shares its key", op)
			}
		}
		if liesIn(log, written) || liesIn(written, log) {
			t.Errorf("the journal behind Write of %v (%v) is the one that was given", op, ok)
		}
		if back, _ := impl.GetOp(bytes); liesIn(back.Key, bytes) || liesIn(back.Msg.Key, bytes) {
			t.Errorf("GetOp of the bytes of %v shares them", op)
		}
	}
}

// TestJournalWritesIntoNothing lays the texts into bytes of their own, where a write would be seen.
func TestJournalWritesIntoNothing(t *testing.T) {
	log, _ := journalOf(t, fewOps())
	for _, s := range []string{log, log + "x", log[:len(log)-1], impl.PutOp(fewOps()[9]), "a", "A"} {
		room := []byte("<" + s + ">")
		kept := string(room)
		given := unsafe.String(&room[1], len(s))
		n := cloneNode(inTheMiddle())
		before := withRoom(n)
		list, _ := impl.Read(given)
		want := fmt.Sprint(list)
		got := impl.Replay(n, given)
		shownGot := fmt.Sprint(got)
		spoilNode(got)
		for i := range list {
			list[i] = impl.Op{Kind: -5, Key: "written"}
		}
		impl.GetOp(given)
		op := impl.Op{Kind: impl.OpMint, Key: given, N: 1}
		impl.OpOk(op)
		impl.PutOp(op)
		impl.OpText(op)
		impl.Write(given, op)
		impl.Write(given, impl.Op{Kind: impl.OpTick})
		if string(room) != kept || withRoom(n) != before {
			t.Fatalf("%q was written into: %q; or the node: %s", kept, room, shown(n))
		}
		again, _ := impl.Read(given)
		if fmt.Sprint(again) != want || fmt.Sprint(impl.Replay(n, given)) != shownGot {
			t.Fatalf("asked again, %q is read otherwise", s)
		}
	}
	wrong := cloneNode(inTheMiddle())
	wrong.Next = 0
	before := withRoom(wrong)
	spoilNode(impl.Replay(wrong, log))
	if withRoom(wrong) != before {
		t.Errorf("a wrong node was written into")
	}
}
