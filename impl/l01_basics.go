package impl

import (
	"cmp"
	"math/bits"
	"strconv"
	"strings"
)

// Constants of chapter 1.
const (
	OK           = 0
	ErrInvalid   = 1
	ErrRange     = 2
	ErrNotFound  = 3
	ErrExists    = 4
	ErrFull      = 5
	ErrState     = 6
	ErrOrder     = 7
	ErrSyntax    = 8
	ErrFormat    = 9
	ErrChecksum  = 10
	ErrTruncated = 11
	MaxName      = 10
	MaxList      = 64
	MaxBudget    = 20000
	MaxValue     = 1000000000000
	CrcStart     = 65535
)

// Limits and texts of chapter 1 that have no exported name.
const (
	maxDigits     = 18
	maxPoint      = 1000000
	crcGreatest   = 65535
	crcPolynomial = 4129
	wordBlank     = " "
	listComma     = ","
	pairColon     = ":"
	emptyListText = "-"
)

var codeNames = [ErrTruncated + 1]string{
	"ok", "invalid", "range", "not-found", "exists", "full",
	"state", "order", "syntax", "format", "checksum", "truncated",
}

// CodeName returns the name of an error code.
func CodeName(code int64) string {
	if !within(OK, ErrTruncated, code) {
		return ""
	}
	return codeNames[code]
}

// IsName reports whether s is a name.
func IsName(s string) bool {
	if !within(1, MaxName, len(s)) || !isSmallLetter(s[0]) {
		return false
	}
	for i := range len(s) {
		if !isSmallLetter(s[i]) && !isDigit(s[i]) {
			return false
		}
	}
	return true
}

func isSmallLetter(b byte) bool { return within('a', 'z', b) }

func isDigit(b byte) bool { return within('0', '9', b) }

// Decimal returns a number in decimal.
func Decimal(n int64) string { return strconv.FormatInt(n, 10) }

// ReadDecimal returns the number with a decimal form.
func ReadDecimal(s string) (int64, bool) {
	if len(strings.TrimPrefix(s, "-")) > maxDigits {
		return 0, false
	}
	n, err := strconv.ParseInt(s, 10, 64)
	// ParseInt also takes plus signs, leading zeros and -0, which no Decimal has.
	if err != nil || Decimal(n) != s {
		return 0, false
	}
	return n, true
}

// SplitWords divides a line at blanks.
func SplitWords(s string) []string {
	// Not strings.Fields: it would also divide at tabs, ends of lines and wide blanks.
	words := []string{}
	for _, part := range strings.Split(s, wordBlank) {
		if part != "" {
			words = append(words, part)
		}
	}
	return words
}

// ListText returns a list of numbers as text.
func ListText(list []int64) string {
	if len(list) > MaxList || !within(-MaxValue, MaxValue, list...) {
		return ""
	}
	if len(list) == 0 {
		return emptyListText
	}
	texts := make([]string, len(list))
	for i, n := range list {
		texts[i] = Decimal(n)
	}
	return strings.Join(texts, listComma)
}

// ReadList returns the list with a text.
func ReadList(s string) ([]int64, bool) {
	if s == emptyListText {
		return []int64{}, true
	}
	texts := strings.Split(s, listComma)
	if len(texts) > MaxList {
		return nil, false
	}
	list, ok := readEach(texts, ReadDecimal)
	if !ok || !within(-MaxValue, MaxValue, list...) {
		return nil, false
	}
	return list, true
}

// readEach returns the values with texts, in their order; none of them if one text is that of no value.
func readEach[T any](texts []string, read func(string) (T, bool)) ([]T, bool) {
	list := make([]T, len(texts))
	for i, text := range texts {
		x, ok := read(text)
		if !ok {
			return nil, false
		}
		list[i] = x
	}
	return list, true
}

// readNumbers is ReadList for lists of one length only.
func readNumbers(s string, count int) ([]int64, bool) {
	list, ok := ReadList(s)
	if !ok || len(list) != count {
		return nil, false
	}
	return list, true
}

// namedNumbersText returns a name, a blank, and a ListText.
func namedNumbersText(name string, numbers ...int64) string {
	return name + wordBlank + ListText(numbers)
}

// readNamedNumbers returns the parts of a namedNumbersText; the name may be none.
func readNamedNumbers(s string, count int) (name string, numbers []int64, ok bool) {
	name, text, _ := strings.Cut(s, wordBlank)
	numbers, ok = readNumbers(text, count)
	return name, numbers, ok
}

// pairText returns two numbers with a separator between them.
func pairText(first int64, separator string, second int64) string {
	return Decimal(first) + separator + Decimal(second)
}

// readPair returns the numbers of a pairText.
func readPair(s, separator string) (first, second int64, ok bool) {
	before, behind, _ := strings.Cut(s, separator)
	numbers, ok := readEach([]string{before, behind}, ReadDecimal)
	if !ok {
		return 0, 0, false
	}
	return numbers[0], numbers[1], true
}

// Crc16 returns the check value of bytes.
func Crc16(s string, start int64) int64 {
	if !within(0, crcGreatest, start) {
		return 0
	}
	check := start
	for i := range len(s) {
		check = crcOfByte(check, s[i])
	}
	return check
}

func crcOfByte(check int64, b byte) int64 {
	check ^= int64(b) * 256
	for range 8 {
		check *= 2
		if check > crcGreatest {
			check = (check & crcGreatest) ^ crcPolynomial
		}
	}
	return check
}

// RootOf returns the square root, rounded down.
func RootOf(n int64) int64 {
	if n <= 0 {
		return 0
	}
	root := int64(0)
	for bit := (bits.Len64(uint64(n)) - 1) / 2; bit >= 0; bit-- {
		next := root | 1<<bit
		// The quotient decides, because the square of next may be too great for an int64.
		if next <= n/next {
			root = next
		}
	}
	return root
}

// DivRound returns the nearest quotient.
func DivRound(a, b int64) int64 {
	if !within(-MaxValue, MaxValue, a, b) {
		return 0
	}
	return nearestQuotient(a, b)
}

// nearestQuotient is DivRound without its limits.
func nearestQuotient(a, b int64) int64 {
	if b == 0 {
		return 0
	}
	dividend, divisor := sizeOf(a), sizeOf(b)
	quotient, rest := dividend/divisor, dividend%divisor
	// Comparing with what is missing avoids doubling the rest, which may be too great for that.
	if rest >= divisor-rest {
		quotient++
	}
	if (a < 0) != (b < 0) {
		return -int64(quotient)
	}
	return int64(quotient)
}

// quotientUp returns the quotient rounded up, of a number from 0 on and one from 1 on.
func quotientUp(a, b int64) int64 {
	if a%b == 0 {
		return a / b
	}
	return a/b + 1
}

// sizeOf returns the absolute value; it is unsigned because that of the least int64 is no int64.
func sizeOf(n int64) uint64 {
	if n < 0 {
		return -uint64(n)
	}
	return uint64(n)
}

// Blend returns a number on a line through two points.
func Blend(x0, y0, x1, y1, x int64) int64 {
	if !within(-maxPoint, maxPoint, x0, y0, x1, y1) {
		return 0
	}
	return lineAt(x0, y0, x1, y1, x)
}

// lineAt is Blend without its limits.
func lineAt(x0, y0, x1, y1, x int64) int64 {
	switch {
	case x <= x0 || x1 <= x0:
		return y0
	case x >= x1:
		return y1
	}
	return y0 + nearestQuotient((y1-y0)*(x-x0), x1-x0)
}

func least[T cmp.Ordered](first T, others ...T) T {
	for _, other := range others {
		first = min(first, other)
	}
	return first
}

func greatest[T cmp.Ordered](first T, others ...T) T {
	for _, other := range others {
		first = max(first, other)
	}
	return first
}

// within reports whether all values are from low to high; without values, this holds.
func within[T cmp.Ordered](low, high T, values ...T) bool {
	return least(low, values...) == low && greatest(high, values...) == high
}

// isIndex reports whether all numbers are indices of a list with a number of values.
func isIndex(count int, numbers ...int64) bool { return within(0, int64(count)-1, numbers...) }

// indicesOf returns the indices of a list with a number of values.
func indicesOf(count int) []int64 {
	indices := make([]int64, count)
	for i := range indices {
		indices[i] = int64(i)
	}
	return indices
}

func isBudget(n int64) bool { return within(1, MaxBudget, n) }

// isIncreasing reports whether a list has at most a number of values, all of them valid, each of them greater than the one before it.
func isIncreasing[T any](list []T, most int, isValid func(T) bool, compare func(T, T) int) bool {
	if len(list) > most {
		return false
	}
	for i, x := range list {
		if !isValid(x) || i > 0 && compare(list[i-1], x) >= 0 {
			return false
		}
	}
	return true
}

// isNamedList reports whether a list has at most a number of values, all of them valid, with strictly increasing names.
func isNamedList[T any](list []T, most int, isValid func(T) bool, nameOf func(T) string) bool {
	return isIncreasing(list, most, isValid, func(a, b T) int { return cmp.Compare(nameOf(a), nameOf(b)) })
}
