package tests

import (
	"math"
	"strconv"
	"strings"
	"testing"

	"loop.example/g00571/impl"
)

// quantity is one of the two kinds of amount: its calls, its limits, and how the document tells it.
type quantity struct {
	name        string
	text        func(int64) string
	read        func(string) impl.NumOut
	least, most int64
	great       int64
	greatWord   string
	smallWord   string
}

func size() quantity {
	return quantity{"Size", impl.SizeText, impl.SizeRead, 1, 1048576, 1024, "Ti", "Gi"}
}

func cpu() quantity {
	return quantity{"Cpu", impl.CpuText, impl.CpuRead, 0, 1000000, 1000, "", "m"}
}

// told: the text that the document asks for, worked out here anew.
func (q quantity) told(n int64) string {
	if n < q.least || n > q.most {
		return ""
	}
	if n%q.great == 0 {
		return strconv.FormatInt(n/q.great, 10) + q.greatWord
	}
	return strconv.FormatInt(n, 10) + q.smallWord
}

func (q quantity) wantTold(t *testing.T, n int64, want string) {
	t.Helper()
	if got := q.text(n); got != want {
		t.Errorf("%sText(%d): got %q, want %q", q.name, n, got, want)
	}
}

func (q quantity) wantRead(t *testing.T, text string, want impl.NumOut) {
	t.Helper()
	if got := q.read(text); got != want {
		t.Errorf("%sRead of %d bytes %.24q: got %+v, want %+v", q.name, len(text), text, got, want)
	}
}

func (q quantity) wantWrong(t *testing.T, texts ...string) {
	t.Helper()
	for _, text := range texts {
		q.wantRead(t, text, impl.NumOut{Code: impl.ErrSyntax})
	}
}

// Promise 3.
func TestSizeTexts(t *testing.T) {
	q := size()
	cases := map[int64]string{
		math.MinInt64: "", math.MinInt64 + 1: "", -1048576: "", -1024: "", -1: "", 0: "",
		1: "1Gi", 5: "5Gi", 10: "10Gi", 1000: "1000Gi", 1023: "1023Gi", 1024: "1Ti", 1025: "1025Gi", 2048: "2Ti",
		1536: "1536Gi", 10240: "10Ti", 1047552: "1023Ti", 1048575: "1048575Gi", 1048576: "1024Ti",
		1048577: "", 2097152: "", 1<<32 + 1: "", math.MaxInt64: "", math.MaxInt64 - 1023: "",
	}
	for n, want := range cases {
		q.wantTold(t, n, want)
		if want != "" {
			q.wantRead(t, want, impl.NumOut{N: n})
		}
	}
}

// Promise 3.
func TestCpuTexts(t *testing.T) {
	q := cpu()
	cases := map[int64]string{
		math.MinInt64: "", math.MinInt64 + 1: "", -1000: "", -1: "",
		0: "0", 1: "1m", 10: "10m", 500: "500m", 999: "999m", 1000: "1", 1001: "1001m", 1500: "1500m", 2000: "2",
		10000: "10", 1024: "1024m", 999000: "999", 999999: "999999m", 1000000: "1000",
		1000001: "", 1001000: "", 2000000: "", 1 << 32: "", math.MaxInt64: "", math.MaxInt64 - 807: "",
	}
	for n, want := range cases {
		q.wantTold(t, n, want)
		if want != "" {
			q.wantRead(t, want, impl.NumOut{N: n})
		}
	}
}

// Promise 3: every one of them, and no two alike.
func TestAmountsComeBack(t *testing.T) {
	for _, q := range []quantity{size(), cpu()} {
		for n := q.least; n <= q.most; n++ {
			text := q.text(n)
			if want := q.told(n); text != want {
				t.Fatalf("%sText(%d): got %q, want %q", q.name, n, text, want)
			}
			if got := q.read(text); got != (impl.NumOut{N: n}) {
				t.Fatalf("%sRead(%q): got %+v, want N %d", q.name, text, got, n)
			}
		}
	}
}

func TestAmountsOutOfLimits(t *testing.T) {
	for _, q := range []quantity{size(), cpu()} {
		for far := int64(1); far < 5000; far++ {
			q.wantTold(t, q.least-far, "")
			q.wantTold(t, q.most+far, "")
		}
		for _, n := range append(edgeNums(), scattered(2000)...) {
			q.wantTold(t, n, q.told(n))
		}
	}
}

// eachText gives every text of at most that many of these signs.
func eachText(signs []string, most int, give func(string)) {
	give("")
	if most == 0 {
		return
	}
	for _, sign := range signs {
		eachText(signs, most-1, func(rest string) { give(sign + rest) })
	}
}

// Promise 3: what is read is told so, and in no other way.
func TestEachShortAmount(t *testing.T) {
	signs := []string{"0", "1", "2", "4", "9", "G", "T", "i", "m", "g", " ", "-", "+", ".", "\x00", "\xff", "\u0661"}
	for _, q := range []quantity{size(), cpu()} {
		numbers := map[string]int64{}
		for n := q.least; n <= q.most; n++ {
			numbers[q.told(n)] = n
		}
		eachText(signs, 4, func(text string) {
			want := impl.NumOut{Code: impl.ErrSyntax}
			if n, right := numbers[text]; right {
				want = impl.NumOut{N: n}
			}
			q.wantRead(t, text, want)
		})
	}
}

func TestWrongSizes(t *testing.T) {
	q := size()
	q.wantWrong(t, "", "0", "5", "1024", "1048576", "Gi", "Ti", "G", "i",
		"5G", "5i", "5T", "5gi", "5GI", "5gI", "5Mi", "5Ki", "5Pi", "5Ei", "5GiB", "5m", "5Gi5", "5GiGi", "5TiGi", "5GiTi",
		"05Gi", "00Gi", "01Ti", "005Gi", "0Gi", "0Ti",
		"+5Gi", "-5Gi", "-1Gi", "-0Gi", "+1Ti",
		" 5Gi", "5 Gi", "5Gi ", "5G i", " ", "5\tGi", "5Gi\n", "\n5Gi", "5Gi\x00", "1_000Gi", "1,000Gi", "5.0Gi", "5e1Gi", "0x5Gi",
		"1024Gi", "2048Gi", "10240Gi", "1048576Gi",
		"1048577Gi", "1049600Gi", "1025Ti", "1026Ti", "1048576Ti", "9999999Gi",
		"9223372036854775807Gi", "9223372036854775808Gi", "9223372036854775809Gi", "18446744073709551617Gi", "18446744073709551621Gi",
		"9223372036854775807Ti", "18014398509481985Ti", "18446744073709551617Ti", strings.Repeat("9", 100)+"Gi",
		"\u0665Gi", "5\u0665Gi", "\uff15Gi", "\u00b2Gi", "\u0967Gi", "\U0001d7d3Gi", "\u4e94Gi", "5\u0261i", "\xffGi", "5\xffGi", "\xb5Gi", "5Gi\xff", "5\ufffdGi")
}

func TestWrongShares(t *testing.T) {
	q := cpu()
	q.wantWrong(t, "", "m", "mm", "0m", "00", "00m", "000",
		"5M", "5mm", "5n", "5u", "5k", "5Gi", "5c", "m5", "5m5",
		"05m", "05", "01", "0500m", "010",
		"+5m", "-5m", "+2", "-2", "-0", "+0", "-1", "-", "+",
		" 5m", "5 m", "5m ", " 2", "2 ", " ", "5\tm", "2\n", "\n2", "2\x00", "1_000", "1,5", "1.5", "0.5", "5e2m", "0x5",
		"1000m", "2000m", "10000m", "1000000m",
		"1000001m", "1001000m", "1001", "1002", "10000", "1000000", "9999999m",
		"9223372036854775807m", "9223372036854775808m", "9223372036854775809m", "18446744073709551617m", "18446744073709551616m",
		"9223372036854775807", "18446744073709552", "18446744073709551617", "18446744073709551616", strings.Repeat("9", 100), strings.Repeat("9", 100)+"m",
		"\u0665m", "5\u0665", "\uff15", "\u00b2", "\u0967m", "\U0001d7d3", "\u4e94", "\u2164", "5\u00b5", "\xff", "5\xff", "\xb5m", "2\xff", "2\ufffd")
}

func TestLongAmounts(t *testing.T) {
	tooLong := impl.NumOut{Code: impl.ErrSize}
	for _, q := range []quantity{size(), cpu()} {
		for _, word := range []string{q.smallWord, q.greatWord, " "} {
			for _, digit := range []string{"0", "1", "9", "x"} {
				fill := impl.MaxBytes - len(word)
				q.wantWrong(t, strings.Repeat(digit, fill)+word)
				q.wantRead(t, strings.Repeat(digit, fill+1)+word, tooLong)
			}
		}
		// The digits of a right one behind noughts, and with blanks behind it.
		right := q.told(5)
		q.wantWrong(t, strings.Repeat("0", impl.MaxBytes-len(right))+right)
		q.wantRead(t, strings.Repeat("0", impl.MaxBytes-len(right)+1)+right, tooLong)
		q.wantRead(t, right+strings.Repeat(" ", impl.MaxBytes), tooLong)
		q.wantRead(t, sampleText(impl.MaxBytes+1), tooLong)
		q.wantWrong(t, sampleText(impl.MaxBytes))
	}
}
