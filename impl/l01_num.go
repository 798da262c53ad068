package impl

import (
	"errors"
	"math/bits"
	"strconv"
	"strings"
)

// Constants, see chapter 1.
const (
	OK        = 0
	ErrForm   = 1
	ErrSize   = 2
	ErrSyntax = 3
	ErrShort  = 4
	ErrRange  = 5
	ErrNone   = 6
	ErrThere  = 7
	ErrFull   = 8
	ErrKind   = 9
	ErrRate   = 10
	ErrLate   = 11
	MaxBytes  = 20000
	MaxList   = 400
	MaxValue  = 999999999999999999
)

const (
	million     = 1000000
	wholeDigits = 12
	partDigits  = 6
	nameBytes   = 40
	// The longest Wide, -2^127, has a sign and 39 digits.
	wideBytes = 40
)

// Wide is a thing of chapter 2.
type Wide struct {
	High int64
	Low  uint64
}

// ValueOut is a thing of chapter 2.
type ValueOut struct {
	Value int64
	Code  int64
}

// WideOut is a thing of chapter 2.
type WideOut struct {
	Wide Wide
	Code int64
}

// readFault carries the code of a text that can't be read.
type readFault struct {
	code int64
}

func (f readFault) Error() string {
	return "unreadable text, code " + strconv.FormatInt(f.code, 10)
}

// codeOf is OK of no error.
func codeOf(err error) int64 {
	var fault readFault
	if errors.As(err, &fault) {
		return fault.code
	}
	return OK
}

func textFits(text string) bool {
	return len(text) <= MaxBytes
}

func valueRight(v int64) bool {
	return v >= -MaxValue && v <= MaxValue
}

func isDigit(c byte) bool {
	return c >= '0' && c <= '9'
}

func isLetter(c byte) bool {
	return c >= 'a' && c <= 'z'
}

func digitAt(text string, at int) bool {
	return at < len(text) && isDigit(text[at])
}

// ValueRead: see chapter 2.
func ValueRead(text string) ValueOut {
	v, err := readValue(text)
	return ValueOut{Value: v, Code: codeOf(err)}
}

func readValue(text string) (int64, error) {
	var v int64
	at, first, places := 0, 0, 0
	if textFits(text) {
		goto sign
	}
	return 0, readFault{ErrSize}

sign:
	if strings.HasPrefix(text, "-") {
		at, first = 1, 1
	}

whole:
	if digitAt(text, at) && at-first < wholeDigits {
		v = v*10 + int64(text[at]-'0')
		at++
		goto whole
	}
	if at == first || at-first > 1 && text[first] == '0' {
		goto wrong
	}
	if at == len(text) {
		goto end
	}
	if text[at] != '.' {
		goto wrong
	}
	at++

part:
	if digitAt(text, at) && places < partDigits {
		v = v*10 + int64(text[at]-'0')
		at++
		places++
		goto part
	}
	if places == 0 || at < len(text) {
		goto wrong
	}

end:
	if places < partDigits {
		v *= 10
		places++
		goto end
	}
	if first == 1 {
		v = -v
	}
	return v, nil

wrong:
	return 0, readFault{ErrSyntax}
}

// ValueText: see chapter 2.
func ValueText(v int64) string {
	if !valueRight(v) {
		return ""
	}
	sign := ""
	if v < 0 {
		sign, v = "-", -v
	}
	return sign + strconv.FormatInt(v/million, 10) + partText(v%million)
}

func partText(part int64) string {
	if part == 0 {
		return ""
	}
	// The million put on top keeps the noughts at the beginning.
	digits := strconv.FormatInt(million+part, 10)[1:]
	return "." + strings.TrimRight(digits, "0")
}

// WideAdd: see chapter 2.
func WideAdd(a Wide, b Wide) Wide {
	low, carry := bits.Add64(a.Low, b.Low, 0)
	high, _ := bits.Add64(uint64(a.High), uint64(b.High), carry)
	return Wide{High: int64(high), Low: low}
}

// WideOf: see chapter 2.
func WideOf(n int64) Wide {
	return Wide{High: n >> 63, Low: uint64(n)}
}

// WideTimes: see chapter 2.
func WideTimes(n int64, w uint64) Wide {
	high, low := bits.Mul64(uint64(n), w)
	if n < 0 {
		// As a uint64, n is 2^64 too great: that is w too many in the high half.
		high -= w
	}
	return Wide{High: int64(high), Low: low}
}

func wideNegative(a Wide) Wide {
	low, borrow := bits.Sub64(0, a.Low, 0)
	high, _ := bits.Sub64(0, uint64(a.High), borrow)
	return Wide{High: int64(high), Low: low}
}

// WideText: see chapter 2.
func WideText(a Wide) string {
	size := a
	if a.High < 0 {
		size = wideNegative(a)
	}
	// The size of -2^127 has no place below 2^127: the halves are unsigned here.
	high, low := uint64(size.High), size.Low
	var digits [wideBytes]byte
	at := wideBytes
	for at == wideBytes || high > 0 || low > 0 {
		var digit uint64
		high, low, digit = divideByTen(high, low)
		at--
		digits[at] = '0' + byte(digit)
	}
	if a.High < 0 {
		at--
		digits[at] = '-'
	}
	return string(digits[at:])
}

func divideByTen(high uint64, low uint64) (uint64, uint64, uint64) {
	lowTenth, rest := bits.Div64(high%10, low, 10)
	return high / 10, lowTenth, rest
}

// WideRead: see chapter 2.
func WideRead(text string) WideOut {
	w, err := readWide(text)
	return WideOut{Wide: w, Code: codeOf(err)}
}

func readWide(text string) (Wide, error) {
	if !textFits(text) {
		return Wide{}, readFault{ErrSize}
	}
	digits, below := strings.CutPrefix(text, "-")
	w := wideOfDigits(digits)
	if below {
		w = wideNegative(w)
	}
	// Needless noughts, "-0", other bytes and what passes the bounds all have another text.
	if WideText(w) != text {
		return Wide{}, readFault{ErrSyntax}
	}
	return w, nil
}

func wideOfDigits(digits string) Wide {
	var w Wide
	for i := range len(digits) {
		w = WideAdd(tenTimes(w), WideOf(int64(digits[i])-'0'))
	}
	return w
}

func tenTimes(a Wide) Wide {
	high, low := bits.Mul64(a.Low, 10)
	return Wide{High: a.High*10 + int64(high), Low: low}
}

// WeightAdd: see chapter 2.
func WeightAdd(a uint64, b uint64) uint64 {
	sum, carry := bits.Add64(a, b, 0)
	if carry > 0 {
		return 1<<64 - 1
	}
	return sum
}

// NameRight: see chapter 2.
func NameRight(t string) bool {
	if len(t) < 1 || len(t) > nameBytes || !isLetter(t[0]) {
		return false
	}
	for i := range len(t) {
		if !nameByte(t[i]) {
			return false
		}
	}
	return true
}

func nameByte(c byte) bool {
	return isLetter(c) || isDigit(c) || c == '_' || c == '.'
}
