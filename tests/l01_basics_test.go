package tests

import (
	"fmt"
	"math/big"
	"math/rand"
	"slices"
	"strconv"
	"strings"
	"testing"

	"loop.example/g00955/impl"
)

// Promise 1, for the functions of chapter 1.

func TestP1BasicsReturnEqualResults(t *testing.T) {
	for _, n := range edgeNumbers() {
		checkRepeats(t, fmt.Sprintf("functions of the number %d", n), func() []any {
			return []any{impl.CodeName(n), impl.Decimal(n), impl.RootOf(n), impl.Crc16("a", n)}
		})
		for _, m := range edgeNumbers() {
			checkRepeats(t, fmt.Sprintf("functions of the numbers %d, %d", n, m), func() []any {
				return []any{impl.DivRound(n, m), impl.ListText([]int64{n, m})}
			})
		}
	}
	for _, s := range edgeTexts() {
		checkRepeats(t, fmt.Sprintf("functions of the text %.40q", s), func() []any {
			n, isDecimal := impl.ReadDecimal(s)
			list, isList := impl.ReadList(s)
			return []any{impl.IsName(s), n, isDecimal, impl.SplitWords(s), list, isList, impl.Crc16(s, impl.CrcStart)}
		})
	}
}

func TestP1BlendReturnsEqualResults(t *testing.T) {
	edges := []int64{minInt, -1000001, -1000000, -1, 0, 1, 1000000, 1000001, maxInt}
	for _, x0 := range edges {
		for _, y0 := range edges {
			for _, x1 := range edges {
				for _, y1 := range edges {
					for _, x := range edges {
						if first, second := impl.Blend(x0, y0, x1, y1, x), impl.Blend(x0, y0, x1, y1, x); first != second {
							t.Fatalf("Blend(%d, %d, %d, %d, %d): first %d, then %d", x0, y0, x1, y1, x, first, second)
						}
					}
				}
			}
		}
	}
}

func TestP1ListTextKeepsItsArgument(t *testing.T) {
	lists := [][]int64{
		nil, {}, {0}, {3, 0, -1}, {impl.MaxValue, -impl.MaxValue}, {3, impl.MaxValue + 1, 1}, {minInt, maxInt},
		make([]int64, impl.MaxList), make([]int64, impl.MaxList+1),
	}
	for _, list := range lists {
		checkKept(t, "ListText", list, func(l []int64) { impl.ListText(l) })
	}
}

func TestP1BasicsReturnNewSlices(t *testing.T) {
	for _, s := range []string{"3,0,-1", "5"} {
		first, _ := impl.ReadList(s)
		second, _ := impl.ReadList(s)
		kept := slices.Clone(second)
		for i := range first {
			first[i] = 99
		}
		checkResult(t, "ReadList after a change of an earlier result", second, kept)
	}
	first, second := impl.SplitWords("a bc d"), impl.SplitWords("a bc d")
	for i := range first {
		first[i] = "x"
	}
	checkResult(t, "SplitWords after a change of an earlier result", second, []string{"a", "bc", "d"})
}

// Promise 2: names and codes.

func TestP2Constants(t *testing.T) {
	codes := []int64{
		impl.OK, impl.ErrInvalid, impl.ErrRange, impl.ErrNotFound, impl.ErrExists, impl.ErrFull,
		impl.ErrState, impl.ErrOrder, impl.ErrSyntax, impl.ErrFormat, impl.ErrChecksum, impl.ErrTruncated,
	}
	for want, got := range codes {
		checkResult(t, "code", got, int64(want))
	}
	limits := []int64{impl.MaxName, impl.MaxList, impl.MaxBudget, impl.MaxValue, impl.CrcStart}
	checkResult(t, "limits", limits, []int64{10, 64, 20000, 1000000000000, 65535})
}

func TestP2CodeName(t *testing.T) {
	names := []string{
		"ok", "invalid", "range", "not-found", "exists", "full",
		"state", "order", "syntax", "format", "checksum", "truncated",
	}
	for code, want := range names {
		checkResult(t, fmt.Sprintf("CodeName(%d)", code), impl.CodeName(int64(code)), want)
	}
	for _, code := range []int64{minInt, -12, -1, 12, 13, 1 << 32, maxInt} {
		checkResult(t, fmt.Sprintf("CodeName(%d)", code), impl.CodeName(code), "")
	}
}

func TestP2IsNameLength(t *testing.T) {
	for length := 0; length <= impl.MaxName+2; length++ {
		for _, s := range []string{strings.Repeat("a", length), "z" + strings.Repeat("0", max(length-1, 0))} {
			want := len(s) >= 1 && len(s) <= impl.MaxName
			checkResult(t, fmt.Sprintf("IsName(%q)", s), impl.IsName(s), want)
		}
	}
}

func TestP2IsNameBytes(t *testing.T) {
	for b := range 256 {
		letter := b >= 'a' && b <= 'z'
		digit := b >= '0' && b <= '9'
		one := string([]byte{byte(b)})
		checkResult(t, fmt.Sprintf("IsName(%q)", one), impl.IsName(one), letter)
		checkResult(t, fmt.Sprintf("IsName(%q)", one+"a"), impl.IsName(one+"a"), letter)
		checkResult(t, fmt.Sprintf("IsName(%q)", "a"+one), impl.IsName("a"+one), letter || digit)
		checkResult(t, fmt.Sprintf("IsName(%q)", "abcdefghi"+one), impl.IsName("abcdefghi"+one), letter || digit)
	}
	for _, s := range []string{"é", "aé", "a b", "a-b", " a", "a ", "a\n"} {
		checkResult(t, fmt.Sprintf("IsName(%q)", s), impl.IsName(s), false)
	}
}

// Promise 2: decimals.

func checkDecimal(t *testing.T, n int64, readable bool) {
	t.Helper()
	s := impl.Decimal(n)
	checkResult(t, fmt.Sprintf("Decimal(%d)", n), s, big.NewInt(n).String())
	got, ok := impl.ReadDecimal(s)
	want := n
	if !readable {
		want = 0
	}
	if got != want || ok != readable {
		t.Errorf("ReadDecimal(%q): got %d, %t, want %d, %t", s, got, ok, want, readable)
	}
}

func TestP2DecimalIsReadBack(t *testing.T) {
	const most = 999999999999999999
	for n := int64(-2000); n <= 2000; n++ {
		checkDecimal(t, n, true)
	}
	for power := int64(10); power <= most; power *= 10 {
		for _, n := range []int64{power - 1, power, power + 1} {
			checkDecimal(t, n, n <= most)
			checkDecimal(t, -n, n <= most)
		}
	}
	for _, n := range []int64{most, -most, 100000000000000000} {
		checkDecimal(t, n, true)
	}
	for _, n := range []int64{most + 1, -most - 1, 1234567890123456789, minInt, minInt + 1, maxInt - 1, maxInt} {
		checkDecimal(t, n, false)
	}
}

func TestP2ReadDecimalRefuses(t *testing.T) {
	texts := []string{
		"", "-", "--1", "-0", "00", "-00", "01", "-01", "+1", "+0", "+-1", "-+1", " 1", "1 ", "1\n", "1-", "1 2", "- 1",
		"1_000", "0x10", "1e3", "1.0", ".5", "a", "1a", "a1", "1,2", "\u0661", "1\x00", "\xff", "/", ":",
		"0000000000000000001", "000000000000000001", "-000000000000000001", "+99999999999999999",
		"1000000000000000000", "-1000000000000000000", "9223372036854775807", "9223372036854775808",
		"-9223372036854775808", "-9223372036854775809", "18446744073709551617", strings.Repeat("1", 400),
	}
	for _, s := range texts {
		if n, ok := impl.ReadDecimal(s); n != 0 || ok {
			t.Errorf("ReadDecimal(%q): got %d, %t, want 0, false", s, n, ok)
		}
	}
}

// Promise 2: words.

func TestP2SplitWords(t *testing.T) {
	cases := []struct {
		line string
		want []string
	}{
		{"", nil},
		{" ", nil},
		{"     ", nil},
		{"a", []string{"a"}},
		{"a b", []string{"a", "b"}},
		{" a", []string{"a"}},
		{"a ", []string{"a"}},
		{"   a   bc  d   ", []string{"a", "bc", "d"}},
		{"a a a", []string{"a", "a", "a"}},
		{"- , -1", []string{"-", ",", "-1"}},
		{"a\tb\nc\r\v\f d", []string{"a\tb\nc\r\v\f", "d"}},
		{"\t \n", []string{"\t", "\n"}},
		{"a\u00a0b\u3000c é", []string{"a\u00a0b\u3000c", "é"}},
		{"\xff \x00\xfe", []string{"\xff", "\x00\xfe"}},
	}
	for _, c := range cases {
		checkResult(t, fmt.Sprintf("SplitWords(%q)", c.line), impl.SplitWords(c.line), c.want)
	}
}

func TestP2SplitWordsFindsJoinedWords(t *testing.T) {
	random := rand.New(rand.NewSource(1))
	for range 500 {
		words := []string{}
		line := strings.Repeat(" ", random.Intn(3))
		for range random.Intn(6) {
			word := strings.Repeat("w", 1+random.Intn(4))
			words = append(words, word)
			line += word + strings.Repeat(" ", 1+random.Intn(3))
		}
		checkResult(t, fmt.Sprintf("SplitWords(%q)", line), impl.SplitWords(line), words)
	}
}

// Promise 2: lists.

func countingList(length int) []int64 {
	list := make([]int64, length)
	for i := range list {
		list[i] = int64(i) - 30
	}
	return list
}

func TestP2ListIsReadBack(t *testing.T) {
	cases := []struct {
		list []int64
		text string
	}{
		{nil, "-"},
		{[]int64{}, "-"},
		{[]int64{0}, "0"},
		{[]int64{-1}, "-1"},
		{[]int64{3, 0, -1}, "3,0,-1"},
		{[]int64{5, 5, 5}, "5,5,5"},
		{[]int64{impl.MaxValue, -impl.MaxValue}, "1000000000000,-1000000000000"},
	}
	for _, c := range cases {
		checkResult(t, fmt.Sprintf("ListText(%v)", c.list), impl.ListText(c.list), c.text)
		got, ok := impl.ReadList(c.text)
		checkResult(t, fmt.Sprintf("ReadList(%q)", c.text), got, c.list)
		checkResult(t, fmt.Sprintf("ReadList(%q), found", c.text), ok, true)
	}
	for length := range impl.MaxList + 1 {
		list := countingList(length)
		got, ok := impl.ReadList(impl.ListText(list))
		checkResult(t, fmt.Sprintf("ReadList of %d numbers", length), got, list)
		checkResult(t, fmt.Sprintf("ReadList of %d numbers, found", length), ok, true)
	}
}

func TestP2ListTextRefuses(t *testing.T) {
	lists := [][]int64{
		{impl.MaxValue + 1}, {-impl.MaxValue - 1}, {minInt}, {maxInt},
		{impl.MaxValue + 1, 0, 0}, {0, -impl.MaxValue - 1, 0}, {0, 0, impl.MaxValue + 1},
		countingList(impl.MaxList + 1), make([]int64, 1000),
	}
	for _, list := range lists {
		checkResult(t, fmt.Sprintf("ListText(%v)", list), impl.ListText(list), "")
	}
}

func TestP2ReadListRefuses(t *testing.T) {
	texts := []string{
		"", ",", "1,", ",1", "1,,2", "-,-", "-,1", "1,-", "--", " -", "- ", "1, 2", "1 ,2", " 1", "1 ", "1;2", "[1]",
		"01", "1,02", "+1", "1,+2", "-0", "0,-0", "a", "1,a", "1\n",
		"1000000000001", "-1000000000001", "0,1000000000001", "-1000000000001,0",
		"999999999999999999", "9223372036854775807", "-9223372036854775808", "18446744073709551617",
		strings.Repeat("0,", impl.MaxList) + "0", strings.Repeat("0,", impl.MaxList-1) + "0,",
		strings.Repeat(",", impl.MaxList), strings.Repeat("0,", 2000) + "0",
	}
	for _, s := range texts {
		if list, ok := impl.ReadList(s); list != nil || ok {
			t.Errorf("ReadList(%.80q): got %v, %t, want nil, false", s, list, ok)
		}
	}
}

// Promise 2: check values.

// plainCrc divides the bits of a text, one after the other, by the polynomial.
func plainCrc(s string, start int64) int64 {
	register := uint16(start)
	for i := range len(s) {
		for bit := 7; bit >= 0; bit-- {
			out := register>>15 ^ uint16(s[i]>>bit)&1
			register <<= 1
			if out == 1 {
				register ^= 0x1021
			}
		}
	}
	return int64(register)
}

func TestP2Crc16(t *testing.T) {
	checkResult(t, "Crc16 of nine digits from 65535", impl.Crc16("123456789", impl.CrcStart), 0x29b1)
	checkResult(t, "Crc16 of nine digits from 0", impl.Crc16("123456789", 0), 0x31c3)
	checkResult(t, "Crc16 of a zero byte from 0", impl.Crc16("\x00", 0), 0)
	for _, start := range []int64{0, 1, 255, 256, 4129, 32767, 32768, 65534, 65535} {
		checkResult(t, fmt.Sprintf("Crc16 of no bytes from %d", start), impl.Crc16("", start), start)
		for b := range 256 {
			s := string([]byte{byte(b), 'x', byte(255 - b)})
			checkResult(t, fmt.Sprintf("Crc16(%q, %d)", s, start), impl.Crc16(s, start), plainCrc(s, start))
		}
	}
	for _, s := range edgeTexts() {
		checkResult(t, fmt.Sprintf("Crc16(%.40q, 65535)", s), impl.Crc16(s, 65535), plainCrc(s, 65535))
		parts := impl.Crc16(s, impl.Crc16("head", 65535))
		checkResult(t, fmt.Sprintf("Crc16 of head and %.40q", s), parts, impl.Crc16("head"+s, 65535))
	}
}

func TestP2Crc16Refuses(t *testing.T) {
	for _, start := range []int64{minInt, -65536, -1, 65536, 65537, 1 << 32, maxInt} {
		for _, s := range []string{"", "a", "123456789"} {
			checkResult(t, fmt.Sprintf("Crc16(%q, %d)", s, start), impl.Crc16(s, start), 0)
		}
	}
}

// Promise 2: roots.

func checkRoot(t *testing.T, n int64) {
	t.Helper()
	want := new(big.Int).Sqrt(big.NewInt(n)).Int64()
	checkResult(t, "RootOf("+strconv.FormatInt(n, 10)+")", impl.RootOf(n), want)
}

func TestP2RootOf(t *testing.T) {
	const greatestRoot = 3037000499
	for n := range int64(5000) {
		checkRoot(t, n)
	}
	roots := []int64{70, 1 << 15, 1 << 16, 1000000, 1<<31 - 1, 1 << 31, 1<<31 + 1, greatestRoot - 1, greatestRoot}
	for power := int64(1); power < greatestRoot; power *= 2 {
		roots = append(roots, power)
	}
	random := rand.New(rand.NewSource(2))
	for range 2000 {
		roots = append(roots, 1+random.Int63n(greatestRoot))
	}
	for _, root := range roots {
		square := root * root
		checkResult(t, fmt.Sprintf("RootOf(%d)", square), impl.RootOf(square), root)
		checkResult(t, fmt.Sprintf("RootOf(%d)", square-1), impl.RootOf(square-1), root-1)
		checkRoot(t, square+1)
		checkRoot(t, random.Int63())
	}
	checkResult(t, "RootOf the greatest number", impl.RootOf(maxInt), greatestRoot)
	checkResult(t, "RootOf the number before it", impl.RootOf(maxInt-1), greatestRoot)
}

func TestP2RootOfNegative(t *testing.T) {
	for _, n := range []int64{-1, -2, -4, -9, -impl.MaxValue, -greatestSquare, minInt + 1, minInt} {
		checkResult(t, fmt.Sprintf("RootOf(%d)", n), impl.RootOf(n), 0)
	}
}

const greatestSquare = 3037000499 * 3037000499

// Promise 2: quotients.

// plainQuotient rounds a / b by adding one half, away from 0.
func plainQuotient(a, b int64) int64 {
	dividend, divisor := big.NewInt(a), big.NewInt(b)
	sign := int64(dividend.Sign() * divisor.Sign())
	dividend.Abs(dividend)
	divisor.Abs(divisor)
	double := new(big.Int).Lsh(dividend, 1)
	double.Add(double, divisor)
	return sign * double.Div(double, new(big.Int).Lsh(divisor, 1)).Int64()
}

func checkQuotient(t *testing.T, a, b int64) {
	t.Helper()
	checkResult(t, fmt.Sprintf("DivRound(%d, %d)", a, b), impl.DivRound(a, b), plainQuotient(a, b))
}

func TestP2DivRound(t *testing.T) {
	cases := [][3]int64{
		{-5, 2, -3}, {5, 2, 3}, {5, -2, -3}, {-5, -2, 3}, {1, 2, 1}, {-1, 2, -1}, {1, -2, -1}, {-1, -2, 1},
		{4, 3, 1}, {5, 3, 2}, {-4, 3, -1}, {-5, 3, -2}, {1, 3, 0}, {-1, 3, 0}, {0, 7, 0}, {0, -7, 0},
		{impl.MaxValue, 1, impl.MaxValue}, {-impl.MaxValue, 1, -impl.MaxValue}, {impl.MaxValue, -1, -impl.MaxValue},
		{impl.MaxValue, impl.MaxValue, 1}, {-impl.MaxValue, impl.MaxValue, -1}, {-impl.MaxValue, -impl.MaxValue, 1},
		{500000000000, impl.MaxValue, 1}, {499999999999, impl.MaxValue, 0}, {-500000000000, impl.MaxValue, -1},
		{500000000000, -impl.MaxValue, -1}, {999999999999, 2, 500000000000}, {-999999999999, 2, -500000000000},
	}
	for _, c := range cases {
		checkResult(t, fmt.Sprintf("DivRound(%d, %d)", c[0], c[1]), impl.DivRound(c[0], c[1]), c[2])
	}
	for a := int64(-60); a <= 60; a++ {
		for b := int64(1); b <= 20; b++ {
			checkQuotient(t, a, b)
			checkQuotient(t, a, -b)
		}
	}
	random := rand.New(rand.NewSource(3))
	for range 5000 {
		a := random.Int63n(2*impl.MaxValue+1) - impl.MaxValue
		checkQuotient(t, a, 1+random.Int63n(impl.MaxValue))
		checkQuotient(t, a, -1-random.Int63n(1000))
	}
}

func TestP2DivRoundRefuses(t *testing.T) {
	for _, n := range edgeNumbers() {
		checkResult(t, fmt.Sprintf("DivRound(%d, 0)", n), impl.DivRound(n, 0), 0)
	}
	for _, n := range []int64{impl.MaxValue + 1, -impl.MaxValue - 1, minInt, minInt + 1, maxInt} {
		for _, other := range []int64{1, -1, 2, impl.MaxValue, -impl.MaxValue, n} {
			checkResult(t, fmt.Sprintf("DivRound(%d, %d)", n, other), impl.DivRound(n, other), 0)
			checkResult(t, fmt.Sprintf("DivRound(%d, %d)", other, n), impl.DivRound(other, n), 0)
		}
	}
}

// Promise 2: blends.

// plainBlend follows the text of the document with numbers of any size.
func plainBlend(x0, y0, x1, y1, x int64) int64 {
	for _, n := range []int64{x0, y0, x1, y1} {
		if n < -1000000 || n > 1000000 {
			return 0
		}
	}
	if x <= x0 || x1 <= x0 {
		return y0
	}
	if x >= x1 {
		return y1
	}
	return y0 + plainQuotient((y1-y0)*(x-x0), x1-x0)
}

func checkBlend(t *testing.T, x0, y0, x1, y1, x int64) {
	t.Helper()
	if got, want := impl.Blend(x0, y0, x1, y1, x), plainBlend(x0, y0, x1, y1, x); got != want {
		t.Errorf("Blend(%d, %d, %d, %d, %d): got %d, want %d", x0, y0, x1, y1, x, got, want)
	}
}

func TestP2BlendCases(t *testing.T) {
	const most = 1000000
	cases := [][6]int64{
		{0, 10, 4, 20, 1, 13}, {0, 10, 4, 20, 2, 15}, {0, 10, 4, 20, 3, 18},
		{0, 0, 4, -6, 1, -2}, {0, 20, 4, 10, 1, 17}, {0, 7, 9, 7, 5, 7},
		{0, 10, 4, 20, 0, 10}, {0, 10, 4, 20, -1, 10}, {0, 10, 4, 20, minInt, 10},
		{0, 10, 4, 20, 4, 20}, {0, 10, 4, 20, 5, 20}, {0, 10, 4, 20, maxInt, 20},
		{4, 10, 4, 20, 4, 10}, {4, 10, 4, 20, 9, 10}, {4, 10, 4, 20, maxInt, 10}, {4, 10, 4, 20, minInt, 10},
		{5, 10, 4, 20, 9, 10}, {5, 10, 4, 20, 4, 10}, {5, 10, 4, 20, maxInt, 10},
		{-most, -most, most, most, 0, 0}, {-most, -most, most, most, 999999, 999999},
		{-most, -most, most, most, -999999, -999999}, {-most, most, most, -most, 999999, -999999},
		{-most, -most, most, most, most, most}, {-most, -most, most, most, -most, -most},
		{-most, -most, most, most, maxInt, most}, {-most, -most, most, most, minInt, -most},
		{-most, 0, most, 1, -1, 0}, {-most, 0, most, 1, 0, 1}, {-most, 0, most, -1, 0, -1},
	}
	for _, c := range cases {
		call := fmt.Sprintf("Blend(%d, %d, %d, %d, %d)", c[0], c[1], c[2], c[3], c[4])
		checkResult(t, call, impl.Blend(c[0], c[1], c[2], c[3], c[4]), c[5])
	}
}

func TestP2BlendRefuses(t *testing.T) {
	for _, n := range []int64{1000001, -1000001, minInt, maxInt} {
		for _, x := range []int64{minInt, -2000000, 0, 5, 10, 2000000, maxInt} {
			for place := range 4 {
				p := [4]int64{0, 10, 10, 20}
				p[place] = n
				call := fmt.Sprintf("Blend(%d, %d, %d, %d, %d)", p[0], p[1], p[2], p[3], x)
				checkResult(t, call, impl.Blend(p[0], p[1], p[2], p[3], x), 0)
			}
		}
	}
}

func TestP2BlendEverywhere(t *testing.T) {
	edges := []int64{minInt, -1000001, -1000000, -999999, -3, 0, 1, 4, 999999, 1000000, 1000001, maxInt}
	for _, x0 := range edges {
		for _, x1 := range edges {
			for _, x := range edges {
				for _, y0 := range edges {
					checkBlend(t, x0, y0, x1, 17, x)
					checkBlend(t, x0, -17, x1, y0, x)
				}
			}
		}
	}
	random := rand.New(rand.NewSource(4))
	point := func() int64 { return random.Int63n(2000001) - 1000000 }
	for range 5000 {
		x0, x1 := point(), point()
		checkBlend(t, x0, point(), x1, point(), point())
		checkBlend(t, min(x0, x1), point(), max(x0, x1), point(), (x0+x1)/2)
	}
}
