package tests

import (
	"hash/adler32"
	"math"
	"slices"
	"strings"
	"testing"

	"loop.example/g00264/impl"
)

// someNumbers has the edges of the numbers, those around each power of two, and some between.
func someNumbers() []int {
	list := []int{0, 1, 127, 128, 300, 999999999, 1000000000, 3999999999, 4000000000}
	for power := 2; power <= 4000000000; power *= 2 {
		list = append(list, power-1, power, power+1)
	}
	for n := 7; n <= 4000000000; n += 9999991 {
		list = append(list, n)
	}
	return list
}

func wantNoNum(t *testing.T, s string, i int) {
	t.Helper()
	if n, at := impl.GetNum(s, i); n != 0 || at != -1 {
		t.Errorf("GetNum(%.40q, %d) = %d, %d, want 0, -1", s, i, n, at)
	}
}

func wantNoText(t *testing.T, s string, i int) {
	t.Helper()
	if text, at := impl.GetText(s, i); text != "" || at != -1 {
		t.Errorf("GetText(%.40q, %d) = %.40q, %d, want the empty text, -1", s, i, text, at)
	}
}

func TestPutNumBytes(t *testing.T) {
	for _, c := range []struct {
		n    int
		want string
	}{
		{0, "\x00"},
		{1, "\x01"},
		{127, "\x7f"},
		{128, "\x80\x01"},
		{300, "\xac\x02"},
		{16383, "\xff\x7f"},
		{16384, "\x80\x80\x01"},
		{1000000000, "\x80\x94\xeb\xdc\x03"},
		{3999999999, "\xff\xcf\xac\xf3\x0e"},
		{4000000000, "\x80\xd0\xac\xf3\x0e"},
		{4000000001, ""},
		{1 << 32, ""},
		{1<<32 + 5, ""},
		{-1, ""},
		{-128, ""},
		{math.MaxInt, ""},
		{math.MinInt, ""},
	} {
		if got := impl.PutNum(c.n); got != c.want {
			t.Errorf("PutNum(%d) = %q, want %q", c.n, got, c.want)
		}
	}
}

func TestNumComesBack(t *testing.T) {
	for _, n := range someNumbers() {
		bytes := impl.PutNum(n)
		for _, ahead := range []string{"", "x", "\x80", "\x00\xff\xff"} {
			for _, behind := range []string{"", "\x00", "\xff", "xyz"} {
				got, at := impl.GetNum(ahead+bytes+behind, len(ahead))
				if got != n || at != len(ahead)+len(bytes) {
					t.Errorf("GetNum of %d behind %q and ahead of %q = %d, %d", n, ahead, behind, got, at)
				}
			}
		}
	}
}

// TestNumOfAnyTwoBytes holds every text of two bytes against what PutNum makes.
func TestNumOfAnyTwoBytes(t *testing.T) {
	numbers := map[string]int{}
	for n := range 128 * 128 {
		numbers[impl.PutNum(n)] = n
	}
	if len(numbers) != 128*128 {
		t.Fatal("two numbers with the same bytes")
	}
	for a := range 256 {
		for b := range 256 {
			s := string([]byte{byte(a), byte(b)})
			wantN, wantAt := 0, -1
			for size := 1; size <= 2; size++ {
				if n, ok := numbers[s[:size]]; ok {
					wantN, wantAt = n, size
				}
			}
			if n, at := impl.GetNum(s, 0); n != wantN || at != wantAt {
				t.Fatalf("GetNum(%q, 0) = %d, %d, want %d, %d", s, n, at, wantN, wantAt)
			}
		}
	}
}

func TestNoNumAtPlacesOutside(t *testing.T) {
	for _, i := range []int{-1, -2, 3, 4, math.MaxInt, math.MinInt} {
		wantNoNum(t, "\x01\x02\x03", i)
	}
	wantNoNum(t, "", 0)
	wantNoNum(t, "", -1)
	wantNoNum(t, "", 1)
}

func TestNoNumThatIsCutOff(t *testing.T) {
	for _, n := range someNumbers() {
		bytes := impl.PutNum(n)
		for size := range len(bytes) {
			wantNoNum(t, bytes[:size], 0)
			wantNoNum(t, "\x05"+bytes[:size], 1)
		}
	}
}

func TestNoNumWithNeedlessBytes(t *testing.T) {
	for _, n := range someNumbers() {
		bytes := impl.PutNum(n)
		last := len(bytes) - 1
		longer := bytes[:last] + string([]byte{bytes[last] + 128})
		for range 12 {
			wantNoNum(t, longer+"\x00", 0)
			wantNoNum(t, "q"+longer+"\x00\x01", 1)
			longer += "\x80"
		}
	}
}

func TestNoNumAboveTheMost(t *testing.T) {
	for _, s := range []string{
		"\x81\xd0\xac\xf3\x0e",                     // 4000000001
		"\xff\xff\xff\xff\x0f",                     // one less than 2 to the 32
		"\x80\x80\x80\x80\x10",                     // 2 to the 32
		"\xff\xff\xff\xff\x7f",                     // as much as five bytes hold
		"\x80\x80\x80\x80\x80\x01",                 // 2 to the 35
		"\xff\xff\xff\xff\xff\xff\xff\xff\x7f",     // the greatest int
		"\x80\x80\x80\x80\x80\x80\x80\x80\x80\x01", // 2 to the 63
		"\x85\x80\x80\x80\x80\x80\x80\x80\x80\x02", // 2 to the 64 and 5
		"\xff\xff\xff\xff\xff\xff\xff\xff\xff\x01", // one less than 2 to the 64
		strings.Repeat("\x80", 20) + "\x01",
		strings.Repeat("\x80", 100000) + "\x01",
		strings.Repeat("\xff", 100000),
	} {
		wantNoNum(t, s, 0)
	}
}

func TestPutTextBytes(t *testing.T) {
	for _, c := range []struct{ text, want string }{
		{"", "\x00"},
		{"a", "\x01a"},
		{"\x00\xff", "\x02\x00\xff"},
		{strings.Repeat("b", 127), "\x7f" + strings.Repeat("b", 127)},
		{strings.Repeat("b", 128), "\x80\x01" + strings.Repeat("b", 128)},
		{strings.Repeat("c", 1000), "\xe8\x07" + strings.Repeat("c", 1000)},
		{strings.Repeat("c", 1001), ""},
		{strings.Repeat("\u00e9", 500), "\xe8\x07" + strings.Repeat("\u00e9", 500)},
		{strings.Repeat("\u00e9", 501), ""},
		{strings.Repeat("c", 100000), ""},
	} {
		if got := impl.PutText(c.text); got != c.want {
			t.Errorf("PutText of %d bytes = %.20q, want %.20q", len(c.text), got, c.want)
		}
	}
}

func TestTextComesBack(t *testing.T) {
	for _, size := range []int{0, 1, 2, 126, 127, 128, 129, 255, 256, 999, 1000} {
		bytes := make([]byte, size)
		for i := range bytes {
			bytes[i] = byte(i*37 + size)
		}
		text := string(bytes)
		put := impl.PutText(text)
		for _, ahead := range []string{"", "\x80", "abc"} {
			for _, behind := range []string{"", "\x00", "\xffq"} {
				got, at := impl.GetText(ahead+put+behind, len(ahead))
				if got != text || at != len(ahead)+len(put) {
					t.Errorf("a text of %d bytes behind %q and ahead of %q: %.20q, %d", size, ahead, behind, got, at)
				}
			}
		}
	}
}

func TestNoText(t *testing.T) {
	for _, i := range []int{-1, 3, 4, math.MaxInt, math.MinInt} {
		wantNoText(t, "\x01a\x00", i)
	}
	wantNoText(t, "", 0)
	wantNoText(t, "\x01", 0)
	wantNoText(t, "\x80\x00", 0)
	wantNoText(t, "\x82\x00ab", 0)
	wantNoText(t, "\xe8\x87\x00"+strings.Repeat("a", 1000), 0)
	wantNoText(t, "\xe9\x07"+strings.Repeat("a", 1001), 0)
	wantNoText(t, "\xe9\x07"+strings.Repeat("a", 2000), 0)
	wantNoText(t, impl.PutNum(4000000000)+"abc", 0)
	wantNoText(t, strings.Repeat("\xff", 50), 0)
	for _, size := range []int{1, 127, 128, 1000} {
		put := impl.PutText(strings.Repeat("z", size))
		for cut := range len(put) {
			wantNoText(t, put[:cut], 0)
		}
	}
}

func TestCheckSumValues(t *testing.T) {
	for _, c := range []struct {
		text string
		want uint32
	}{
		{"", 1},
		{"\x00", 65537},
		{"a", 0x00620062},
		{"abc", 0x024d0127},
		{"Wikipedia", 0x11e60398},
	} {
		if got := impl.CheckSum(c.text); got != c.want {
			t.Errorf("CheckSum(%q) = %d, want %d", c.text, got, c.want)
		}
	}
	for _, size := range []int{1, 255, 256, 257, 258, 5552, 5553, 65521, 300000} {
		for _, b := range []string{"\x00", "\x01", "z", "\xff"} {
			text := strings.Repeat(b, size)
			if got, want := impl.CheckSum(text), adler32.Checksum([]byte(text)); got != want {
				t.Errorf("CheckSum of %d times %q = %d, want %d", size, b, got, want)
			}
		}
	}
}

func TestChangedByteHasAnotherSum(t *testing.T) {
	for _, text := range []string{"a", "abc", "\x00\x00\x00", "\xff\xff", strings.Repeat("\xff", 300)} {
		sum := impl.CheckSum(text)
		for at := range len(text) {
			for b := range 256 {
				changed := text[:at] + string([]byte{byte(b)}) + text[at+1:]
				if changed != text && impl.CheckSum(changed) == sum {
					t.Fatalf("a text of %d bytes with byte %d at %d has the same sum", len(text), b, at)
				}
			}
		}
	}
}

func TestKeys(t *testing.T) {
	for _, s := range []string{"a", "z", "0", "9", "a1", "abcdefghij", "0123456789", "zzzzzzzzzz"} {
		if !impl.KeyOk(s) {
			t.Errorf("%q is a key", s)
		}
	}
	for _, s := range []string{"", "abcdefghijk", "01234567890", "A", "aB", " a", "a ", "a b", "a-b", "a\n", "a\x00", "\u00e9", "a\xff", strings.Repeat("a", 100000)} {
		if impl.KeyOk(s) {
			t.Errorf("%.40q is no key", s)
		}
	}
	for b := range 256 {
		want := b >= 'a' && b <= 'z' || b >= '0' && b <= '9'
		one := string([]byte{byte(b)})
		for _, s := range []string{one, "a" + one, one + "9", "abcd" + one + "56789"} {
			if impl.KeyOk(s) != want {
				t.Errorf("KeyOk(%q) is %v", s, !want)
			}
		}
	}
}

func TestDecTexts(t *testing.T) {
	for _, c := range []struct {
		n    int
		want string
	}{
		{0, "0"}, {7, "7"}, {10, "10"}, {120, "120"}, {-1, "-1"}, {-12, "-12"}, {999999999, "999999999"},
		{1000000000, "1000000000"}, {4000000000, "4000000000"},
		{math.MaxInt, "9223372036854775807"}, {math.MinInt, "-9223372036854775808"},
	} {
		if got := impl.DecText(c.n); got != c.want {
			t.Errorf("DecText(%d) = %q, want %q", c.n, got, c.want)
		}
	}
}

func TestReadDecComesBack(t *testing.T) {
	for _, n := range someNumbers() {
		want := n
		if n > 999999999 {
			want = -1
		}
		if got := impl.ReadDec(impl.DecText(n)); got != want {
			t.Errorf("ReadDec(%q) = %d, want %d", impl.DecText(n), got, want)
		}
	}
	for n := range 12000 {
		if got := impl.ReadDec(impl.DecText(n)); got != n {
			t.Fatalf("ReadDec(%q) = %d", impl.DecText(n), got)
		}
	}
}

func TestReadDecOfNoNumber(t *testing.T) {
	for _, s := range []string{
		"", "-", "+", "-1", "+1", "-0", "+0", "00", "01", "000000001", "0000000000", " 1", "1 ", "1 2", "1_000", "1.0", "1e3", "0x1", "a", "1a", "1\n", "1\x00",
		"\xff", "\u0661", "/", ":", "1/", "1:", "1000000000", "9999999990", "9223372036854775808", "18446744073709551617", strings.Repeat("9", 100000), strings.Repeat("0", 100000),
	} {
		if got := impl.ReadDec(s); got != -1 {
			t.Errorf("ReadDec(%.40q) = %d, want -1", s, got)
		}
	}
}

func TestWords(t *testing.T) {
	for _, c := range []struct {
		text string
		want []string
	}{
		{"", []string{""}},
		{" ", []string{"", ""}},
		{"   ", []string{"", "", "", ""}},
		{"a", []string{"a"}},
		{"a b", []string{"a", "b"}},
		{"a  b", []string{"a", "", "b"}},
		{" a b ", []string{"", "a", "b", ""}},
		{"a\tb\nc\u00a0d", []string{"a\tb\nc\u00a0d"}},
		{"\xff \x00", []string{"\xff", "\x00"}},
	} {
		if got := impl.Words(c.text); !slices.Equal(got, c.want) {
			t.Errorf("Words(%q) = %q, want %q", c.text, got, c.want)
		}
	}
	if got := len(impl.Words(strings.Repeat(" ", 100000))); got != 100001 {
		t.Errorf("of 100000 blanks: %d words", got)
	}
}

func TestWordsAreNewEachTime(t *testing.T) {
	text := "ab cd"
	first := impl.Words(text)
	first[0] = "zz"
	_ = append(first[:1], "yy")
	if got := impl.Words(text); !slices.Equal(got, []string{"ab", "cd"}) || text != "ab cd" {
		t.Errorf("an answer that was written into changed a later one: %q", got)
	}
}
