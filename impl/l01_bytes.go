package impl

import (
	"errors"
	"strconv"
	"strings"
)

const MaxAmount = 1000000000

const (
	maxNum  = 4000000000
	maxText = 1000
	maxKey  = 10
	maxDec  = 999999999
	sumBase = 65521
)

func isAmount(n int) bool { return n >= 0 && n <= MaxAmount }

func isSomeAmount(n int) bool { return n >= 1 && n <= MaxAmount }

// noNumber tells at which place of a text there is no number.
type noNumber struct {
	place int
}

func (e noNumber) Error() string { return "no number at place " + strconv.Itoa(e.place) }

// unread wraps what kept a number or a text from being read.
type unread struct {
	cause error
}

func (e unread) Error() string { return "not to be read" }

func (e unread) Unwrap() error { return e.cause }

func noNumberAt(place int) error { return unread{noNumber{place}} }

func isNoNumber(err error) bool {
	var bad noNumber
	return errors.As(err, &bad)
}

func PutNum(n int) string {
	if n < 0 || n > maxNum {
		return ""
	}
	var out []byte
	for n > 127 {
		out = append(out, byte(n%128+128))
		n /= 128
	}
	return string(append(out, byte(n)))
}

func GetNum(s string, i int) (int, int) {
	n, next, err := numAt(s, i)
	if isNoNumber(err) {
		return 0, -1
	}
	return n, next
}

func numAt(s string, i int) (int, int, error) {
	if i < 0 {
		return 0, 0, noNumberAt(i)
	}
	n, unit := 0, 1
	// Behind a unit above maxNum only needless noughts could follow; to stop there keeps n from wrapping round.
	for at := i; at < len(s) && unit <= maxNum; at++ {
		b := int(s[at])
		n += b % 128 * unit
		unit *= 128
		if b > 127 {
			continue
		}
		if n > maxNum || b == 0 && at > i {
			break
		}
		return n, at + 1, nil
	}
	return 0, 0, noNumberAt(i)
}

func PutText(s string) string {
	if len(s) > maxText {
		return ""
	}
	return PutNum(len(s)) + s
}

func GetText(s string, i int) (string, int) {
	text, next, err := textAt(s, i)
	if isNoNumber(err) {
		return "", -1
	}
	return text, next
}

func textAt(s string, i int) (string, int, error) {
	size, at, err := numAt(s, i)
	if err != nil {
		return "", 0, unread{err}
	}
	if size > maxText || size > len(s)-at {
		return "", 0, noNumberAt(i)
	}
	// A piece of s would share its memory.
	return strings.Clone(s[at : at+size]), at + size, nil
}

func CheckSum(s string) uint32 {
	first, second := uint32(1), uint32(0)
	for i := range len(s) {
		first = (first + uint32(s[i])) % sumBase
		second = (second + first) % sumBase
	}
	return second*65536 + first
}

func KeyOk(s string) bool {
	if s == "" || len(s) > maxKey {
		return false
	}
	for i := range len(s) {
		if !isSmallLetter(s[i]) && !isDigit(s[i]) {
			return false
		}
	}
	return true
}

func isSmallLetter(b byte) bool { return b >= 'a' && b <= 'z' }

func isDigit(b byte) bool { return b >= '0' && b <= '9' }

func DecText(n int) string { return strconv.Itoa(n) }

func ReadDec(s string) int {
	n, err := decOf(s)
	if isNoNumber(err) {
		return -1
	}
	return n
}

func decOf(s string) (int, error) {
	if s == "" || s[0] == '0' && s != "0" {
		return 0, noNumberAt(0)
	}
	n := 0
	for at := range len(s) {
		if !isDigit(s[at]) {
			return 0, noNumberAt(at)
		}
		n = n*10 + int(s[at]-'0')
		// Asked for each digit, so that a long text does not wrap round.
		if n > maxDec {
			return 0, noNumberAt(at)
		}
	}
	return n, nil
}

func Words(s string) []string {
	words := strings.Split(s, " ")
	for i, word := range words {
		// Split answers pieces of s, which share its memory.
		words[i] = strings.Clone(word)
	}
	return words
}
