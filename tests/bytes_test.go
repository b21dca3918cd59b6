package tests

import (
	"encoding/binary"
	"hash/crc32"
	"math"
	"strings"
	"testing"
	"unsafe"

	"loop.example/g00571/impl"
)

// edgeNums: the numbers at which a byte more is needed, on both sides of 0, and their neighbours.
func edgeNums() []int64 {
	out := []int64{0, 1, -1, math.MaxInt64, math.MaxInt64 - 1, math.MinInt64, math.MinInt64 + 1}
	for bits := 6; bits < 63; bits += 7 {
		edge := int64(1) << bits
		out = append(out, edge-1, edge, edge+1, -edge-1, -edge, -edge+1)
	}
	return out
}

// scattered: numbers of all lengths, the same in every run.
func scattered(count int) []int64 {
	var out []int64
	state := uint64(88172645463325252)
	for i := range count {
		state ^= state << 13
		state ^= state >> 7
		state ^= state << 17
		out = append(out, int64(state)>>(i%64))
	}
	return out
}

// sampleText: a text of that many bytes, of all values of a byte.
func sampleText(size int) string {
	out := make([]byte, size)
	for i := range out {
		out[i] = byte(i*7 + i/256)
	}
	return string(out)
}

func wantNum(t *testing.T, text string, at int64, want impl.NumOut) {
	t.Helper()
	if got := impl.GetNum(text, at); got != want {
		t.Errorf("GetNum of %d bytes %.24q at %d: got %+v, want %+v", len(text), text, at, got, want)
	}
}

func wantText(t *testing.T, text string, at int64, want impl.TextOut) {
	t.Helper()
	if got := impl.GetText(text, at); got != want {
		t.Errorf("GetText of %d bytes %.24q at %d: got code %d, at %d and %d bytes %.24q, want code %d, at %d and %d bytes %.24q",
			len(text), text, at, got.Code, got.At, len(got.Text), got.Text, want.Code, want.At, len(want.Text), want.Text)
	}
}

func wantUnsealed(t *testing.T, text string, want impl.TextOut) {
	t.Helper()
	if got := impl.Unseal(text); got != want {
		t.Errorf("Unseal of %d bytes %.24q: got code %d, at %d and %d bytes %.24q, want code %d, at %d and %d bytes %.24q",
			len(text), text, got.Code, got.At, len(got.Text), got.Text, want.Code, want.At, len(want.Text), want.Text)
	}
}

func TestConstants(t *testing.T) {
	got := []int64{impl.OK, impl.ErrForm, impl.ErrSize, impl.ErrSyntax, impl.ErrShort, impl.ErrSum, impl.ErrNone,
		impl.ErrThere, impl.ErrRange, impl.ErrFull, impl.ErrState, impl.ErrWait}
	for i, code := range got {
		if code != int64(i) {
			t.Errorf("code %d: got %d", i, code)
		}
	}
	if impl.MaxBytes != 8000 || impl.MaxList != 400 || impl.MaxTime != 1000000 {
		t.Errorf("limits: got %d, %d, %d", impl.MaxBytes, impl.MaxList, impl.MaxTime)
	}
}

// Promise 1.
func TestNumberBytes(t *testing.T) {
	cases := []struct {
		n    int64
		want string
	}{
		{0, "\x00"}, {-1, "\x01"}, {1, "\x02"}, {63, "\x7e"}, {-64, "\x7f"},
		{64, "\x80\x01"}, {-65, "\x81\x01"}, {8191, "\xfe\x7f"}, {-8192, "\xff\x7f"}, {8192, "\x80\x80\x01"},
		{math.MaxInt64, "\xfe\xff\xff\xff\xff\xff\xff\xff\xff\x01"},
		{math.MinInt64, "\xff\xff\xff\xff\xff\xff\xff\xff\xff\x01"},
		{1 << 62, "\x80\x80\x80\x80\x80\x80\x80\x80\x80\x01"},
		{1<<62 - 1, "\xfe\xff\xff\xff\xff\xff\xff\xff\x7f"},
	}
	for _, c := range cases {
		if got := impl.PutNum(c.n); got != c.want {
			t.Errorf("PutNum(%d): got %q, want %q", c.n, got, c.want)
		}
	}
}

// Promise 1.
func TestNumbersComeBack(t *testing.T) {
	for _, n := range append(edgeNums(), scattered(2000)...) {
		put := impl.PutNum(n)
		if want := string(binary.AppendVarint(nil, n)); put != want {
			t.Errorf("PutNum(%d): got %q, want %q", n, put, want)
		}
		size := int64(len(put))
		wantNum(t, put, 0, impl.NumOut{N: n, At: size})
		wantNum(t, "\xff\xff"+put+"\xff", 2, impl.NumOut{N: n, At: size + 2})
		for cut := range put {
			wantNum(t, put[:cut], 0, impl.NumOut{Code: impl.ErrShort})
		}
	}
}

// Promise 1: what is read is written so, and in no other way.
func TestEachPairOfBytes(t *testing.T) {
	for first := range 256 {
		for second := range 256 {
			text := string([]byte{byte(first), byte(second)})
			got := impl.GetNum(text, 0)
			want := int64(impl.OK)
			if first >= 128 && second >= 128 {
				want = impl.ErrShort
			} else if first >= 128 && second == 0 {
				want = impl.ErrSyntax
			}
			if got.Code != want {
				t.Errorf("GetNum(%q, 0): got code %d, want %d", text, got.Code, want)
			}
			if want == impl.OK && impl.PutNum(got.N) != text[:got.At] {
				t.Errorf("GetNum(%q, 0): got %+v, which is put as %q", text, got, impl.PutNum(got.N))
			}
			if want != impl.OK && (got.N != 0 || got.At != 0) {
				t.Errorf("GetNum(%q, 0): got %+v beside a code", text, got)
			}
		}
	}
}

func TestNumberPlaces(t *testing.T) {
	full := strings.Repeat("\x02", impl.MaxBytes)
	cases := []struct {
		text string
		at   int64
		want impl.NumOut
	}{
		{full, impl.MaxBytes - 1, impl.NumOut{N: 1, At: impl.MaxBytes}},
		{full, impl.MaxBytes, impl.NumOut{Code: impl.ErrShort}},
		{full, -1, impl.NumOut{Code: impl.ErrForm}},
		{full + "\x02", 0, impl.NumOut{Code: impl.ErrSize}},
		{full + "\x02", -1, impl.NumOut{Code: impl.ErrSize}},
		{full + "\x02", impl.MaxBytes + 1, impl.NumOut{Code: impl.ErrSize}},
		{"", 0, impl.NumOut{Code: impl.ErrShort}},
		{"", -1, impl.NumOut{Code: impl.ErrForm}},
		{"\x80\x00", -1, impl.NumOut{Code: impl.ErrForm}},
		{"\x02", 1, impl.NumOut{Code: impl.ErrShort}},
		{"\x02", 2, impl.NumOut{Code: impl.ErrShort}},
		{"\x02", math.MaxInt64, impl.NumOut{Code: impl.ErrShort}},
		{"\x02", math.MinInt64, impl.NumOut{Code: impl.ErrForm}},
		{"\x02", 1 << 32, impl.NumOut{Code: impl.ErrShort}},
	}
	for _, c := range cases {
		wantNum(t, c.text, c.at, c.want)
	}
}

func TestNumberFaults(t *testing.T) {
	nine := strings.Repeat("\x80", 9)
	short, syntax := impl.NumOut{Code: impl.ErrShort}, impl.NumOut{Code: impl.ErrSyntax}
	cases := []struct {
		text string
		want impl.NumOut
	}{
		{"\x80", short},
		{nine, short},
		{strings.Repeat("\xff", 9), short},
		{nine + "\x00", syntax},
		{nine + "\x01", impl.NumOut{N: 1 << 62, At: 10}},
		{nine + "\x02", syntax},
		{nine + "\x7f", syntax},
		{nine + "\x80", syntax},
		{nine + "\x81", syntax},
		{nine + "\xff", syntax},
		{nine + "\x80\x00", syntax},
		{nine + "\x80\x01", syntax},
		{"\x80\x00", syntax},
		{"\xff\x00", syntax},
		{"\x80\x80\x00", syntax},
		{"\x82\x80\x00\x01", syntax},
		{nine[:8] + "\x00", syntax},
		{"\x00\x80", impl.NumOut{N: 0, At: 1}},
	}
	for _, c := range cases {
		wantNum(t, c.text, 0, c.want)
		want := c.want
		if want.Code == impl.OK {
			want.At++
		}
		wantNum(t, "\x05"+c.text, 1, want)
	}
}

// Promise 1.
func TestTextsComeBack(t *testing.T) {
	for _, size := range []int{0, 1, 2, 63, 64, 65, 500, 7997, 7998} {
		text := sampleText(size)
		put := impl.PutText(text)
		if want := impl.PutNum(int64(size)) + text; put != want {
			t.Errorf("PutText of %d bytes: got %d bytes, want %d", size, len(put), len(want))
		}
		wantText(t, put, 0, impl.TextOut{Text: text, At: int64(len(put))})
		for _, cut := range []int{1, size / 2, size} {
			if cut > 0 {
				wantText(t, put[:len(put)-cut], 0, impl.TextOut{Code: impl.ErrShort})
			}
		}
	}
	row := impl.PutText("ab") + impl.PutText("") + impl.PutText("\x00\xff")
	wantText(t, row, 0, impl.TextOut{Text: "ab", At: 3})
	wantText(t, row, 3, impl.TextOut{Text: "", At: 4})
	wantText(t, row, 4, impl.TextOut{Text: "\x00\xff", At: 7})
	wantText(t, row, 7, impl.TextOut{Code: impl.ErrShort})
}

func TestGreatestTexts(t *testing.T) {
	full := sampleText(impl.MaxBytes)
	put := impl.PutText(full)
	if put != "\x80\x7d"+full {
		t.Errorf("PutText of MaxBytes bytes: got %d bytes", len(put))
	}
	if got := impl.PutText(full + "x"); got != "" {
		t.Errorf("PutText of one byte too many: got %d bytes", len(got))
	}
	// Bytes of a text that long are themselves too many to be handed in.
	wantText(t, put, 0, impl.TextOut{Code: impl.ErrSize})
	wantText(t, put, -1, impl.TextOut{Code: impl.ErrSize})
	wantText(t, full+"x", 0, impl.TextOut{Code: impl.ErrSize})
	wantText(t, put[:impl.MaxBytes], 0, impl.TextOut{Code: impl.ErrShort})
}

func TestTextFaults(t *testing.T) {
	form, short, syntax := impl.TextOut{Code: impl.ErrForm}, impl.TextOut{Code: impl.ErrShort}, impl.TextOut{Code: impl.ErrSyntax}
	cases := []struct {
		text string
		at   int64
		want impl.TextOut
	}{
		{"\x04ab", -1, form},
		{"\x04ab", math.MinInt64, form},
		{"", -1, form},
		{"", 0, short},
		{"\x04ab", 3, short},
		{"\x04ab", 4, short},
		{"\x04ab", math.MaxInt64, short},
		{"\x04a", 0, short},
		{"\x04", 0, short},
		{"\x80", 0, short},
		{"\x80\x00", 0, syntax},
		{"\x84\x00ab", 0, syntax},
		{strings.Repeat("\x80", 9) + "\x02", 0, syntax},
		{"\x01ab", 0, syntax},
		{impl.PutNum(-1), 0, syntax},
		{impl.PutNum(math.MinInt64) + "ab", 0, syntax},
		{impl.PutNum(math.MaxInt64) + "ab", 0, syntax},
		{impl.PutNum(impl.MaxBytes) + "ab", 0, short},
		{impl.PutNum(impl.MaxBytes+1) + "ab", 0, syntax},
		{"\x00", 0, impl.TextOut{At: 1}},
	}
	for _, c := range cases {
		wantText(t, c.text, c.at, c.want)
	}
}

func TestNames(t *testing.T) {
	for _, name := range []string{"a", "z", "a0", "z9", "a_", "n1", "v_data", strings.Repeat("q", 20), "a234567890123456789_"} {
		if !impl.NameRight(name) {
			t.Errorf("NameRight(%q): got false", name)
		}
	}
	wrong := []string{"", "_a", "0a", "9", "A", "aB", "a-b", "a b", " a", "a ", "a\n", "a\x00", "\xc3\xa4", "a\xc3\xa4",
		"`", "{", "a`", "a{", "a/", "a:", "a^", strings.Repeat("q", 21), strings.Repeat("q", impl.MaxBytes+1)}
	for _, name := range wrong {
		if impl.NameRight(name) {
			t.Errorf("NameRight(%.24q): got true", name)
		}
	}
}

func TestNameBytes(t *testing.T) {
	const letters, others = "abcdefghijklmnopqrstuvwxyz", "0123456789_"
	for i := range 256 {
		b := string([]byte{byte(i)})
		if got, want := impl.NameRight(b), strings.Contains(letters, b); got != want {
			t.Errorf("NameRight(%q): got %v", b, got)
		}
		if got, want := impl.NameRight("a"+b+"c"), strings.Contains(letters+others, b); got != want {
			t.Errorf("NameRight(%q): got %v", "a"+b+"c", got)
		}
	}
}

// Promise 2.
func TestCrc(t *testing.T) {
	for text, want := range map[string]int64{"": 0, "a": 0xE8B7BE43, "123456789": 0xCBF43926, "\x00": 0xD202EF8D} {
		if got := impl.Crc(text); got != want {
			t.Errorf("Crc(%q): got %d, want %d", text, got, want)
		}
	}
	for _, size := range []int{1, 4, 255, 256, 257, impl.MaxBytes - 1, impl.MaxBytes} {
		text := sampleText(size)
		if got, want := impl.Crc(text), int64(crc32.ChecksumIEEE([]byte(text))); got != want {
			t.Errorf("Crc of %d bytes: got %d, want %d", size, got, want)
		}
	}
	for b := range 256 {
		text := string([]byte{byte(b)})
		if got, want := impl.Crc(text), int64(crc32.ChecksumIEEE([]byte(text))); got != want {
			t.Errorf("Crc(%q): got %d, want %d", text, got, want)
		}
	}
	if got := impl.Crc(sampleText(impl.MaxBytes + 1)); got != 0 {
		t.Errorf("Crc of one byte too many: got %d", got)
	}
}

// Promise 2.
func TestCrcGoesOn(t *testing.T) {
	text := sampleText(300)
	for cut := 0; cut <= len(text); cut++ {
		if got, want := impl.CrcMore(impl.Crc(text[:cut]), text[cut:]), impl.Crc(text); got != want {
			t.Errorf("CrcMore behind %d bytes: got %d, want %d", cut, got, want)
		}
	}
	full := sampleText(impl.MaxBytes)
	twice := int64(crc32.ChecksumIEEE([]byte(full + full)))
	if got := impl.CrcMore(impl.Crc(full), full); got != twice {
		t.Errorf("CrcMore of twice MaxBytes bytes: got %d, want %d", got, twice)
	}
	for _, crc := range []int64{0, 1, 1 << 31, 1<<32 - 1} {
		if got := impl.CrcMore(crc, ""); got != crc {
			t.Errorf("CrcMore(%d, empty): got %d", crc, got)
		}
		if got, want := impl.CrcMore(crc, "ab"), int64(crc32.Update(uint32(crc), crc32.IEEETable, []byte("ab"))); got != want {
			t.Errorf("CrcMore(%d, ab): got %d, want %d", crc, got, want)
		}
		if got := impl.CrcMore(crc, full+"x"); got != 0 {
			t.Errorf("CrcMore(%d, one byte too many): got %d", crc, got)
		}
	}
	for _, crc := range []int64{-1, 1 << 32, 1<<32 + 1, math.MaxInt64, math.MinInt64} {
		for _, text := range []string{"", "ab"} {
			if got := impl.CrcMore(crc, text); got != 0 {
				t.Errorf("CrcMore(%d, %q): got %d", crc, text, got)
			}
		}
	}
}

// Promise 2.
func TestSealedTextsComeBack(t *testing.T) {
	if got, want := impl.Seal("123456789"), "123456789\x26\x39\xf4\xcb"; got != want {
		t.Errorf("Seal: got %q, want %q", got, want)
	}
	if got, want := impl.Seal(""), "\x00\x00\x00\x00"; got != want {
		t.Errorf("Seal of nothing: got %q, want %q", got, want)
	}
	for _, size := range []int{0, 1, 3, 4, 5, 300, impl.MaxBytes - 5, impl.MaxBytes - 4} {
		text := sampleText(size)
		sealed := impl.Seal(text)
		want := string(binary.LittleEndian.AppendUint32([]byte(text), crc32.ChecksumIEEE([]byte(text))))
		if sealed != want {
			t.Errorf("Seal of %d bytes: got %d bytes, want %d", size, len(sealed), len(want))
		}
		wantUnsealed(t, sealed, impl.TextOut{Text: text})
	}
	for _, size := range []int{impl.MaxBytes - 3, impl.MaxBytes, impl.MaxBytes + 1} {
		if got := impl.Seal(sampleText(size)); got != "" {
			t.Errorf("Seal of %d bytes: got %d bytes", size, len(got))
		}
	}
}

// Promise 2.
func TestTurnedBytesAreRefused(t *testing.T) {
	for _, text := range []string{"", "a", "agent n1", "\x00\x00\x00\x00\x00"} {
		sealed := impl.Seal(text)
		for i := range len(sealed) {
			for turn := 1; turn < 256; turn++ {
				turned := []byte(sealed)
				turned[i] ^= byte(turn)
				wantUnsealed(t, string(turned), impl.TextOut{Code: impl.ErrSum})
			}
		}
	}
	full := impl.Seal(sampleText(impl.MaxBytes - 4))
	for _, i := range []int{0, 1, 4000, impl.MaxBytes - 5, impl.MaxBytes - 4, impl.MaxBytes - 1} {
		turned := []byte(full)
		turned[i] ^= 16
		wantUnsealed(t, string(turned), impl.TextOut{Code: impl.ErrSum})
	}
}

func TestUnsealFaults(t *testing.T) {
	for _, text := range []string{"", "a", "\x00\x00\x00"} {
		wantUnsealed(t, text, impl.TextOut{Code: impl.ErrShort})
	}
	wantUnsealed(t, "\x00\x00\x00\x00", impl.TextOut{})
	wantUnsealed(t, "\x00\x00\x00\x01", impl.TextOut{Code: impl.ErrSum})
	wantUnsealed(t, "abcd", impl.TextOut{Code: impl.ErrSum})
	wantUnsealed(t, impl.Seal("agent n1")+"x", impl.TextOut{Code: impl.ErrSum})
	wantUnsealed(t, impl.Seal("agent n1")[1:], impl.TextOut{Code: impl.ErrSum})
	wantUnsealed(t, "123456789\xcb\xf4\x39\x26", impl.TextOut{Code: impl.ErrSum})
	wantUnsealed(t, sampleText(impl.MaxBytes), impl.TextOut{Code: impl.ErrSum})
	wantUnsealed(t, sampleText(impl.MaxBytes+1), impl.TextOut{Code: impl.ErrSize})
	long := sampleText(impl.MaxBytes - 3)
	sealed := string(binary.LittleEndian.AppendUint32([]byte(long), crc32.ChecksumIEEE([]byte(long))))
	wantUnsealed(t, sealed, impl.TextOut{Code: impl.ErrSize})
}

// sharesMemory: does one text lie within the memory of the other?
func sharesMemory(part string, whole string) bool {
	if part == "" || whole == "" {
		return false
	}
	from := uintptr(unsafe.Pointer(unsafe.StringData(part)))
	begin := uintptr(unsafe.Pointer(unsafe.StringData(whole)))
	return from >= begin && from < begin+uintptr(len(whole))
}

// unsafeText: a text that lies in these bytes, and changes with them.
func unsafeText(bytes []byte) string {
	return unsafe.String(unsafe.SliceData(bytes), len(bytes))
}

func TestAnswersAreNewMemory(t *testing.T) {
	text := sampleText(40)
	put, sealed := impl.PutText(text), impl.Seal(text)
	answers := []struct {
		what, part, whole string
	}{
		{"PutText", put, text},
		{"GetText", impl.GetText(put, 0).Text, put},
		{"Seal", sealed, text},
		{"Unseal", impl.Unseal(sealed).Text, sealed},
	}
	for _, a := range answers {
		if sharesMemory(a.part, a.whole) {
			t.Errorf("%s: the answer shares memory with what was handed in", a.what)
		}
	}
}
