package impl

import (
	"errors"
	"strconv"
)

// Constants, see chapter 1.
const (
	OK        = 0
	ErrForm   = 1
	ErrSize   = 2
	ErrSyntax = 3
	ErrShort  = 4
	ErrSum    = 5
	ErrNone   = 6
	ErrThere  = 7
	ErrRange  = 8
	ErrFull   = 9
	ErrState  = 10
	ErrWait   = 11
	MaxBytes  = 8000
	MaxList   = 400
	MaxTime   = 1000000
)

// The forms of chapter 2 that have no exported name.
const (
	maxNumBytes  = 10
	maxNameBytes = 20
	sealBytes    = 4
	maxCrc       = 1<<32 - 1
	crcPoly      = 0xEDB88320
)

// NumOut is a thing of chapter 2.
type NumOut struct {
	N    int64
	At   int64
	Code int64
}

// TextOut is a thing of chapter 2.
type TextOut struct {
	Text string
	At   int64
	Code int64
}

// readFault is why nothing can be read at a place of a text.
type readFault struct {
	code int64
}

func (f readFault) Error() string {
	return "reading: code " + strconv.FormatInt(f.code, 10)
}

// faultCode: the code of what went wrong in reading, OK if nothing did.
func faultCode(err error) int64 {
	if err == nil {
		return OK
	}
	var fault readFault
	if errors.As(err, &fault) {
		return fault.code
	}
	return ErrForm
}

// tooLong: is it more than any call takes?
func tooLong(text string) bool {
	return len(text) > MaxBytes
}

// joined: both texts, one behind the other, in memory of their own.
func joined(first string, second string) string {
	out := make([]byte, len(first)+len(second))
	behind := copy(out, first)
	copy(out[behind:], second)
	return string(out)
}

// cutOut: a piece of a text that does not share the text's memory.
func cutOut(text string, from int64, to int64) string {
	out := make([]byte, to-from)
	copy(out, text[from:to])
	return string(out)
}

// folded turns numbers near 0, of either sign, into small ones.
func folded(n int64) uint64 {
	if n >= 0 {
		return 2 * uint64(n)
	}
	// -n itself would not fit for the least int64.
	return 2*uint64(-(n+1)) + 1
}

// unfolded undoes folded.
func unfolded(u uint64) int64 {
	half := int64(u >> 1)
	if u&1 == 0 {
		return half
	}
	return -half - 1
}

// PutNum: see chapter 2.
func PutNum(n int64) string {
	out := make([]byte, 0, maxNumBytes)
	u := folded(n)
	for u >= 128 {
		out = append(out, byte(u&127)+128)
		u >>= 7
	}
	out = append(out, byte(u))
	return string(out)
}

// readNum: the number at a place that is not below 0, and the place behind it.
func readNum(text string, at int64) (int64, int64, error) {
	var u uint64
	var b byte
	var count int64
	size := int64(len(text))
more:
	// Held against what is left, so that no place, however great, overflows.
	if count >= size-at {
		return 0, 0, readFault{ErrShort}
	}
	b = text[at+count]
	count++
	if count == maxNumBytes && b > 1 {
		goto wrong
	}
	u |= uint64(b&127) << (7 * (count - 1))
	if b < 128 {
		goto last
	}
	goto more
last:
	// A nought on top says nothing: fewer bytes would have done.
	if b == 0 && count > 1 {
		goto wrong
	}
	return unfolded(u), at + count, nil
wrong:
	return 0, 0, readFault{ErrSyntax}
}

// GetNum: see chapter 2.
func GetNum(text string, at int64) NumOut {
	if tooLong(text) {
		return NumOut{Code: ErrSize}
	}
	if at < 0 {
		return NumOut{Code: ErrForm}
	}
	n, behind, err := readNum(text, at)
	return NumOut{N: n, At: behind, Code: faultCode(err)}
}

// PutText: see chapter 2.
func PutText(t string) string {
	if tooLong(t) {
		return ""
	}
	return joined(PutNum(int64(len(t))), t)
}

// readText: the text at a place that is not below 0, and the place behind it.
func readText(text string, at int64) (string, int64, error) {
	size, from, err := readNum(text, at)
	if err != nil {
		return "", 0, err
	}
	if size < 0 || size > MaxBytes {
		return "", 0, readFault{ErrSyntax}
	}
	if size > int64(len(text))-from {
		return "", 0, readFault{ErrShort}
	}
	return cutOut(text, from, from+size), from + size, nil
}

// GetText: see chapter 2.
func GetText(text string, at int64) TextOut {
	if tooLong(text) {
		return TextOut{Code: ErrSize}
	}
	if at < 0 {
		return TextOut{Code: ErrForm}
	}
	t, behind, err := readText(text, at)
	return TextOut{Text: t, At: behind, Code: faultCode(err)}
}

// lowerLetter: may it begin a name?
func lowerLetter(b byte) bool {
	return b >= 'a' && b <= 'z'
}

// nameByte: may it stand in a name behind the first byte?
func nameByte(b byte) bool {
	return lowerLetter(b) || b >= '0' && b <= '9' || b == '_'
}

// NameRight: see chapter 2.
func NameRight(t string) bool {
	if len(t) < 1 || len(t) > maxNameBytes || !lowerLetter(t[0]) {
		return false
	}
	for i := 1; i < len(t); i++ {
		if !nameByte(t[i]) {
			return false
		}
	}
	return true
}

// crcByte: the register of a CRC behind one byte more.
func crcByte(register uint32, b byte) uint32 {
	// All eight of the byte's bits go in at once: shifting brings each in turn to the lowest place.
	register ^= uint32(b)
	for range 8 {
		low := register & 1
		register >>= 1
		if low == 1 {
			register ^= crcPoly
		}
	}
	return register
}

// crcOn: the CRC of what had this one, and of a text behind it.
func crcOn(crc uint32, text string) uint32 {
	register := ^crc
	for i := 0; i < len(text); i++ {
		register = crcByte(register, text[i])
	}
	return ^register
}

// Crc: see chapter 2.
func Crc(text string) int64 {
	return CrcMore(0, text)
}

// CrcMore: see chapter 2.
func CrcMore(crc int64, text string) int64 {
	if tooLong(text) || crc < 0 || crc > maxCrc {
		return 0
	}
	return int64(crcOn(uint32(crc), text))
}

// Seal: see chapter 2.
func Seal(text string) string {
	if len(text) > MaxBytes-sealBytes {
		return ""
	}
	crc := crcOn(0, text)
	sum := make([]byte, sealBytes)
	for i := range sum {
		sum[i] = byte(crc >> (8 * i))
	}
	return joined(text, string(sum))
}

// Unseal: see chapter 2.
func Unseal(text string) TextOut {
	if tooLong(text) {
		return TextOut{Code: ErrSize}
	}
	if len(text) < sealBytes {
		return TextOut{Code: ErrShort}
	}
	inner := cutOut(text, 0, int64(len(text)-sealBytes))
	if Seal(inner) != text {
		return TextOut{Code: ErrSum}
	}
	return TextOut{Text: inner}
}
