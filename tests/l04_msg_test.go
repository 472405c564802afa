package tests

import (
	"encoding/binary"
	"hash/adler32"
	"math"
	"slices"
	"strings"
	"testing"
	"unsafe"

	"loop.example/g00264/impl"
)

// rightMsgs has messages of each kind, at the edges of all that they have.
func rightMsgs() []impl.Msg {
	var list []impl.Msg
	for _, between := range [][2]int{{0, 1}, {1, 0}, {0, 29}, {29, 0}, {28, 29}, {2, 17}} {
		m := impl.Msg{From: between[0], To: between[1]}
		for _, id := range []int{1, 2, 127, 128, 300, 16384, most - 1, most} {
			m.Kind, m.Id = impl.MsgAck, id
			list = append(list, m)
		}
		for _, key := range []string{"k", "0", "key1", "0123456789", "zzzzzzzzzz"} {
			for _, n := range []int{1, 5, 127, 128, most - 1, most} {
				m = impl.Msg{Kind: impl.MsgWant, From: between[0], To: between[1], Key: key, N: n}
				list = append(list, m)
				m.Kind = impl.MsgPay
				for _, ids := range [][2]int{{1, 1}, {2, 1}, {2, 2}, {300, 7}, {300, 300}, {most, 1}, {most, most - 1}, {most, most}} {
					m.Id, m.Low = ids[0], ids[1]
					list = append(list, m)
				}
			}
		}
	}
	return list
}

// changedMsgs has a message with each of what it has put to other values, one at a time, two at a time where they hang together.
func changedMsgs(m impl.Msg) []impl.Msg {
	var list []impl.Msg
	add := func(change func(*impl.Msg)) {
		changed := m
		change(&changed)
		list = append(list, changed)
	}
	numbers := []int{-1, 0, 1, 2, 28, 29, 30, 255, 256, 257, 258, most, most + 1, 4000000000, 1 << 32, math.MaxInt, math.MinInt}
	for _, n := range numbers {
		add(func(m *impl.Msg) { m.Kind = n })
		add(func(m *impl.Msg) { m.From = n })
		add(func(m *impl.Msg) { m.To = n })
		add(func(m *impl.Msg) { m.From, m.To = n, n })
		add(func(m *impl.Msg) { m.N = n })
		for _, low := range append(numbers, n-1, n, n+1) {
			add(func(m *impl.Msg) { m.Id, m.Low = n, low })
		}
	}
	for _, key := range slices.Concat(someKeys(), noKeys()) {
		add(func(m *impl.Msg) { m.Key = key })
	}
	return list
}

func isIn(n, least, greatest int) bool { return n >= least && n <= greatest }

// isMsg says what a message is, as the document tells it.
func isMsg(m impl.Msg) bool {
	if !isIn(m.From, 0, 29) || !isIn(m.To, 0, 29) || m.From == m.To {
		return false
	}
	isKey := isIn(len(m.Key), 1, 10) && strings.Trim(m.Key, "abcdefghijklmnopqrstuvwxyz0123456789") == ""
	switch m.Kind {
	case 0:
		return isKey && isIn(m.N, 1, most) && m.Id == 0 && m.Low == 0
	case 1:
		return isKey && isIn(m.N, 1, most) && isIn(m.Id, 1, most) && isIn(m.Low, 1, m.Id)
	case 2:
		return m.Key == "" && m.N == 0 && isIn(m.Id, 1, most) && m.Low == 0
	}
	return false
}

// bytesOf puts a message into bytes without asking whether it is one; a number below 0 counts as 0.
func bytesOf(m impl.Msg) string {
	out := []byte{byte(m.Kind)}
	for _, n := range []int{m.From, m.To, m.Id, m.Low, len(m.Key)} {
		out = binary.AppendUvarint(out, uint64(max(n, 0)))
	}
	out = append(out, m.Key...)
	return string(binary.AppendUvarint(out, uint64(max(m.N, 0))))
}

func frameOf(text string) string {
	out := binary.BigEndian.AppendUint32(nil, adler32.Checksum([]byte(text)))
	out = binary.AppendUvarint(out, uint64(len(text)))
	return string(append(out, text...))
}

func wantNoMsg(t *testing.T, s string) {
	t.Helper()
	if m, ok := impl.GetMsg(s); ok || m != (impl.Msg{}) {
		t.Fatalf("GetMsg(%.60q) = %s, %v, want nothing", s, shown(m), ok)
	}
}

func wantNoFrame(t *testing.T, s string) {
	t.Helper()
	if m, ok := impl.Unframe(s); ok || m != (impl.Msg{}) {
		t.Fatalf("Unframe(%.60q) = %s, %v, want nothing", s, shown(m), ok)
	}
}

func withByte(s string, at int, b int) string {
	return s[:at] + string([]byte{byte(b)}) + s[at+1:]
}

func TestMsgsThatAreRight(t *testing.T) {
	for _, m := range rightMsgs() {
		if !isMsg(m) || !impl.MsgOk(m) {
			t.Fatalf("%v is a message", m)
		}
	}
}

func TestMsgEdges(t *testing.T) {
	want := impl.Msg{Kind: impl.MsgWant, From: 3, To: 4, Key: "k", N: 5}
	pay := impl.Msg{Kind: impl.MsgPay, From: 3, To: 4, Id: 9, Low: 7, Key: "k", N: 5}
	ack := impl.Msg{Kind: impl.MsgAck, From: 3, To: 4, Id: 9}
	for _, m := range []impl.Msg{want, pay, ack} {
		for _, c := range []struct {
			from, to int
			ok       bool
		}{
			{0, 29, true}, {29, 0, true}, {0, 1, true}, {-1, 4, false}, {3, -1, false}, {30, 4, false}, {3, 30, false},
			{0, 0, false}, {29, 29, false}, {4, 4, false}, {-1, 30, false},
			{math.MaxInt, 4, false}, {3, math.MaxInt, false}, {math.MinInt, 4, false}, {3, math.MinInt, false},
		} {
			m.From, m.To = c.from, c.to
			if impl.MsgOk(m) != c.ok {
				t.Errorf("MsgOk(%v) is %v", m, !c.ok)
			}
		}
	}
	for _, c := range []struct {
		m  impl.Msg
		ok bool
	}{
		{impl.Msg{}, false},
		{impl.Msg{Kind: 0, To: 1, Key: "k", N: 1}, true},
		{impl.Msg{Kind: 0, To: 1, Key: "k", N: most}, true},
		{impl.Msg{Kind: 0, To: 1, Key: "k", N: most + 1}, false},
		{impl.Msg{Kind: 0, To: 1, Key: "k"}, false},
		{impl.Msg{Kind: 0, To: 1, Key: "k", N: -1}, false},
		{impl.Msg{Kind: 0, To: 1, N: 1}, false},
		{impl.Msg{Kind: 0, To: 1, Key: "0123456789", N: 1}, true},
		{impl.Msg{Kind: 0, To: 1, Key: "01234567890", N: 1}, false},
		{impl.Msg{Kind: 0, To: 1, Key: "K", N: 1}, false},
		{impl.Msg{Kind: 0, To: 1, Key: "k", N: 1, Id: 1}, false},
		{impl.Msg{Kind: 0, To: 1, Key: "k", N: 1, Low: 1}, false},
		{impl.Msg{Kind: 0, To: 1, Key: "k", N: 1, Id: 1, Low: 1}, false},
		{impl.Msg{Kind: 1, To: 1, Key: "k", N: 1, Id: 1, Low: 1}, true},
		{impl.Msg{Kind: 1, To: 1, Key: "k", N: 1, Id: 1}, false},
		{impl.Msg{Kind: 1, To: 1, Key: "k", N: 1, Id: 1, Low: 2}, false},
		{impl.Msg{Kind: 1, To: 1, Key: "k", N: 1, Id: 1, Low: -1}, false},
		{impl.Msg{Kind: 1, To: 1, Key: "k", N: 1}, false},
		{impl.Msg{Kind: 1, To: 1, Key: "k", N: 1, Low: 1}, false},
		{impl.Msg{Kind: 1, To: 1, Key: "k", N: 1, Id: most, Low: most}, true},
		{impl.Msg{Kind: 1, To: 1, Key: "k", N: 1, Id: most, Low: most + 1}, false},
		{impl.Msg{Kind: 1, To: 1, Key: "k", N: 1, Id: most + 1, Low: 1}, false},
		{impl.Msg{Kind: 1, To: 1, Key: "k", N: most + 1, Id: 1, Low: 1}, false},
		{impl.Msg{Kind: 1, To: 1, Key: "k", Id: 1, Low: 1}, false},
		{impl.Msg{Kind: 1, To: 1, N: 1, Id: 1, Low: 1}, false},
		{impl.Msg{Kind: 2, To: 1, Id: 1}, true},
		{impl.Msg{Kind: 2, To: 1, Id: most}, true},
		{impl.Msg{Kind: 2, To: 1, Id: most + 1}, false},
		{impl.Msg{Kind: 2, To: 1}, false},
		{impl.Msg{Kind: 2, To: 1, Id: -1}, false},
		{impl.Msg{Kind: 2, To: 1, Id: 1, Low: 1}, false},
		{impl.Msg{Kind: 2, To: 1, Id: 1, Key: "k"}, false},
		{impl.Msg{Kind: 2, To: 1, Id: 1, N: 1}, false},
		{impl.Msg{Kind: 3, To: 1}, false},
		{impl.Msg{Kind: 3, To: 1, Id: 1}, false},
		{impl.Msg{Kind: -1, To: 1, Key: "k", N: 1}, false},
		{impl.Msg{Kind: 256, To: 1, Key: "k", N: 1}, false},
		{impl.Msg{Kind: math.MinInt, To: 1, Key: "k", N: 1}, false},
	} {
		if impl.MsgOk(c.m) != c.ok {
			t.Errorf("MsgOk(%v) is %v", c.m, !c.ok)
		}
	}
}

func TestChangedMsgs(t *testing.T) {
	right, wrong := 0, 0
	check := func(m impl.Msg) {
		bytes, frame, text := impl.PutMsg(m), impl.Frame(m), impl.MsgText(m)
		if !isMsg(m) {
			wrong++
			if impl.MsgOk(m) || bytes != "" || frame != "" || text != "" {
				t.Fatalf("%s is no message: %q, %q, %q", shown(m), bytes, frame, text)
			}
			return
		}
		right++
		if !impl.MsgOk(m) || bytes != bytesOf(m) || frame != frameOf(bytesOf(m)) || text == "" {
			t.Fatalf("%s is a message: %q, %q, %q", shown(m), bytes, frame, text)
		}
	}
	for i, m := range rightMsgs() {
		check(m)
		if i%7 != 0 {
			continue
		}
		for _, changed := range changedMsgs(m) {
			check(changed)
		}
	}
	if right < 10000 || wrong < 10000 {
		t.Errorf("%d right ones and %d wrong ones are few", right, wrong)
	}
}

func TestMsgBytesAndTexts(t *testing.T) {
	for _, c := range []struct {
		m                  impl.Msg
		bytes, frame, text string
	}{
		{impl.Msg{Kind: impl.MsgWant, From: 2, To: 1, Key: "k", N: 5},
			"\x00\x02\x01\x00\x00\x01k\x05", "\x00\xfa\x00\x75\x08\x00\x02\x01\x00\x00\x01k\x05", "want 2 > 1 k 5"},
		{impl.Msg{Kind: impl.MsgPay, From: 0, To: 29, Id: 300, Low: 7, Key: "a0", N: 128},
			"\x01\x00\x1d\xac\x02\x07\x02a0\x80\x01", "", "pay 0 > 29 300 7 a0 128"},
		{impl.Msg{Kind: impl.MsgPay, From: 29, To: 0, Id: most, Low: most, Key: "0123456789", N: most},
			"\x01\x1d\x00\x80\x94\xeb\xdc\x03\x80\x94\xeb\xdc\x03\x0a0123456789\x80\x94\xeb\xdc\x03", "",
			"pay 29 > 0 1000000000 1000000000 0123456789 1000000000"},
		{impl.Msg{Kind: impl.MsgAck, From: 11, To: 10, Id: 1},
			"\x02\x0b\x0a\x01\x00\x00\x00", "", "ack 11 > 10 1"},
	} {
		if got := impl.PutMsg(c.m); got != c.bytes {
			t.Errorf("PutMsg(%v) = %q, want %q", c.m, got, c.bytes)
		}
		if got := impl.MsgText(c.m); got != c.text {
			t.Errorf("MsgText(%v) = %q, want %q", c.m, got, c.text)
		}
		if c.frame == "" {
			c.frame = frameOf(c.bytes)
		}
		if got := impl.Frame(c.m); got != c.frame {
			t.Errorf("Frame(%v) = %q, want %q", c.m, got, c.frame)
		}
	}
}

func TestMsgComesBack(t *testing.T) {
	for _, m := range rightMsgs() {
		if got, ok := impl.GetMsg(impl.PutMsg(m)); !ok || got != m {
			t.Fatalf("GetMsg of the bytes of %v = %v, %v", m, got, ok)
		}
		if got, ok := impl.Unframe(impl.Frame(m)); !ok || got != m {
			t.Fatalf("Unframe of the frame of %v = %v, %v", m, got, ok)
		}
	}
}

func TestTextsOfTwoMsgsDiffer(t *testing.T) {
	texts := map[string]bool{}
	for _, m := range rightMsgs() {
		texts[impl.MsgText(m)] = true
	}
	if len(texts) != len(rightMsgs()) {
		t.Errorf("%d messages have %d texts", len(rightMsgs()), len(texts))
	}
}

func TestMsgThatIsCut(t *testing.T) {
	for _, m := range rightMsgs() {
		bytes, frame := impl.PutMsg(m), impl.Frame(m)
		for at := range len(bytes) {
			wantNoMsg(t, bytes[:at])
			wantNoMsg(t, bytes[at+1:])
			// A sum that is right does not make a whole message of a piece.
			wantNoFrame(t, frameOf(bytes[:at]))
		}
		for at := range len(frame) {
			wantNoFrame(t, frame[:at])
			wantNoFrame(t, frame[at+1:])
		}
	}
}

func TestMsgWithOneMore(t *testing.T) {
	for i, m := range rightMsgs() {
		if i%5 != 0 {
			continue
		}
		bytes, frame := impl.PutMsg(m), impl.Frame(m)
		for b := range 256 {
			more := string([]byte{byte(b)})
			wantNoMsg(t, bytes+more)
			wantNoFrame(t, frame+more)
			wantNoFrame(t, more+frame)
			wantNoFrame(t, frameOf(bytes+more))
			wantNoFrame(t, frame[:4]+more+frame[4:])
		}
		wantNoMsg(t, bytes+bytes)
		wantNoFrame(t, frame+frame)
		wantNoFrame(t, bytes)
		wantNoMsg(t, frame)
		wantNoFrame(t, frame+strings.Repeat("x", 2000))
	}
}

// TestMsgWithOneByteChanged holds what is told against what PutMsg gives: a changed byte may make another message.
func TestMsgWithOneByteChanged(t *testing.T) {
	told, untold := 0, 0
	for i, m := range rightMsgs() {
		if i%11 != 0 {
			continue
		}
		bytes, frame := impl.PutMsg(m), impl.Frame(m)
		for at := range len(bytes) {
			for b := range 256 {
				changed := withByte(bytes, at, b)
				got, ok := impl.GetMsg(changed)
				if !ok {
					untold++
					wantNoMsg(t, changed)
					wantNoFrame(t, frameOf(changed))
					continue
				}
				told++
				if !isMsg(got) || impl.PutMsg(got) != changed || bytesOf(got) != changed {
					t.Fatalf("GetMsg(%q) = %v", changed, got)
				}
			}
		}
		for at := range len(frame) {
			for b := range 256 {
				if changed := withByte(frame, at, b); changed != frame {
					wantNoFrame(t, changed)
				}
			}
		}
	}
	if told < 1000 || untold < 1000 {
		t.Errorf("%d told and %d untold are few", told, untold)
	}
}

func TestMsgWithNeedlessBytes(t *testing.T) {
	longer := func(number string) string {
		last := len(number) - 1
		return number[:last] + string([]byte{number[last] + 128}) + "\x00"
	}
	for _, m := range rightMsgs() {
		parts := []string{bytesOf(m)[:1]}
		for _, n := range []int{m.From, m.To, m.Id, m.Low, len(m.Key)} {
			parts = append(parts, string(binary.AppendUvarint(nil, uint64(n))))
		}
		parts = append(parts, m.Key, string(binary.AppendUvarint(nil, uint64(m.N))))
		if strings.Join(parts, "") != impl.PutMsg(m) {
			t.Fatalf("the parts of %v are %q", m, parts)
		}
		for _, at := range []int{1, 2, 3, 4, 5, 7} {
			changed := slices.Clone(parts)
			changed[at] = longer(changed[at])
			wantNoMsg(t, strings.Join(changed, ""))
			wantNoFrame(t, frameOf(strings.Join(changed, "")))
		}
		frame, size := impl.Frame(m), impl.PutNum(len(bytesOf(m)))
		wantNoFrame(t, frame[:4]+longer(size)+frame[4+len(size):])
	}
}

// TestBytesOfWhatIsNoMsg gives bytes, with a right sum, that no message has.
func TestBytesOfWhatIsNoMsg(t *testing.T) {
	tried := 0
	for i, m := range rightMsgs() {
		if i%23 != 0 {
			continue
		}
		for _, changed := range changedMsgs(m) {
			bytes := bytesOf(changed)
			if got, ok := impl.GetMsg(bytes); ok && (!isMsg(got) || bytesOf(got) != bytes) {
				t.Fatalf("GetMsg of the bytes of %s = %v", shown(changed), got)
			}
			if isMsg(changed) || changed.Kind < 0 || changed.Kind > 255 || min(changed.From, changed.To, changed.Id, changed.Low, changed.N) < 0 {
				continue
			}
			tried++
			wantNoMsg(t, bytes)
			wantNoFrame(t, frameOf(bytes))
		}
	}
	if tried < 1000 {
		t.Errorf("%d are few", tried)
	}
	for kind := 3; kind < 256; kind++ {
		wantNoMsg(t, bytesOf(impl.Msg{Kind: kind, From: 1, To: 2, Id: 1}))
		wantNoMsg(t, bytesOf(impl.Msg{Kind: kind, From: 1, To: 2, Key: "k", N: 1}))
		wantNoMsg(t, bytesOf(impl.Msg{Kind: kind, From: 1, To: 2, Id: 1, Low: 1, Key: "k", N: 1}))
	}
}

func TestFramesOfOtherTexts(t *testing.T) {
	wantNoMsg(t, "")
	wantNoFrame(t, "")
	wantNoFrame(t, frameOf(""))
	for _, text := range []string{"\x00", "x", "want 2 > 1 k 5", strings.Repeat("\x00", 7), strings.Repeat("\x00", 8)} {
		wantNoMsg(t, text)
		wantNoFrame(t, text)
		wantNoFrame(t, frameOf(text))
	}
	for _, size := range []int{30, 127, 128, 999, 1000, 1001, 1002, 1006, 1007, 5000, 1000000} {
		for _, b := range []string{"\x00", "\x02", "\x80", "\xff", "k"} {
			text := strings.Repeat(b, size)
			wantNoMsg(t, text)
			wantNoFrame(t, text)
			wantNoFrame(t, frameOf(text))
		}
	}
	for _, m := range rightMsgs() {
		bytes, frame := impl.PutMsg(m), impl.Frame(m)
		swapped := string([]byte{frame[3], frame[2], frame[1], frame[0]})
		if swapped != frame[:4] {
			wantNoFrame(t, swapped+frame[4:])
		}
		wantNoFrame(t, "\x00\x00\x00\x00"+frame[4:])
		wantNoFrame(t, frame[:4]+bytes)
		wantNoFrame(t, frameOf(frame))
		wantNoFrame(t, frameOf(impl.MsgText(m)))
		wantNoFrame(t, impl.PutText(bytes))
	}
}

// TestAnyShortBytes makes bytes out of a few values that messages have, so that some of them are messages.
func TestAnyShortBytes(t *testing.T) {
	state, told := uint32(7), 0
	pick := func(n int) int {
		state = state*1664525 + 1013904223
		return int(state>>8) % n
	}
	const values = "\x00\x00\x00\x01\x01\x01\x02\x02\x03k\x80\x1d"
	for range 2000000 {
		bytes := make([]byte, 6+pick(4))
		for i := range bytes {
			bytes[i] = values[pick(len(values))]
		}
		m, ok := impl.GetMsg(string(bytes))
		if !ok {
			if m != (impl.Msg{}) {
				t.Fatalf("GetMsg(%q) = %v, false", bytes, m)
			}
			continue
		}
		told++
		if !isMsg(m) || bytesOf(m) != string(bytes) {
			t.Fatalf("GetMsg(%q) = %v", bytes, m)
		}
	}
	if told < 100 {
		t.Errorf("%d messages are few", told)
	}
}

// liesIn tells whether a text lies in the memory of another one.
func liesIn(part, whole string) bool {
	if part == "" || whole == "" {
		return false
	}
	at, from := uintptr(unsafe.Pointer(unsafe.StringData(part))), uintptr(unsafe.Pointer(unsafe.StringData(whole)))
	return at >= from && at < from+uintptr(len(whole))
}

func TestMsgsShareNoMemory(t *testing.T) {
	for i, m := range rightMsgs() {
		m.Key = strings.Clone(m.Key)
		bytes, frame, text := impl.PutMsg(m), impl.Frame(m), impl.MsgText(m)
		if liesIn(m.Key, bytes) || liesIn(m.Key, frame) || liesIn(m.Key, text) {
			t.Fatalf("what is told of %v shares its key", m)
		}
		if got, ok := impl.GetMsg(bytes); !ok || liesIn(got.Key, bytes) {
			t.Fatalf("GetMsg of the bytes of message %d: %v, %v", i, got, ok)
		}
		if got, ok := impl.Unframe(frame); !ok || liesIn(got.Key, frame) {
			t.Fatalf("Unframe of the frame of message %d: %v, %v", i, got, ok)
		}
	}
}

// TestMsgsWriteIntoNothing lays the texts into bytes of their own, where a write would be seen.
func TestMsgsWriteIntoNothing(t *testing.T) {
	for _, m := range rightMsgs() {
		for _, s := range []string{m.Key, impl.PutMsg(m), impl.Frame(m), impl.Frame(m) + "x"} {
			room := []byte("<" + s + ">")
			kept := string(room)
			given := unsafe.String(&room[1], len(s))
			impl.GetMsg(given)
			impl.Unframe(given)
			asked := m
			asked.Key = given
			impl.MsgOk(asked)
			impl.PutMsg(asked)
			impl.Frame(asked)
			impl.MsgText(asked)
			if string(room) != kept {
				t.Fatalf("%q was written into: %q", kept, room)
			}
		}
	}
}

func TestMsgsAreAnsweredAgainAlike(t *testing.T) {
	list := rightMsgs()
	for i, m := range list {
		other := list[len(list)-1-i]
		bytes, frame, text := impl.PutMsg(m), impl.Frame(m), impl.MsgText(m)
		impl.GetMsg(impl.PutMsg(other))
		impl.Unframe(impl.Frame(other) + "x")
		impl.MsgText(other)
		if impl.PutMsg(m) != bytes || impl.Frame(m) != frame || impl.MsgText(m) != text {
			t.Fatalf("%v is told otherwise behind %v", m, other)
		}
	}
}
