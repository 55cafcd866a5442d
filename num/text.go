package num

import (
	"strconv"
	"strings"

	"foregone/api"
)

const (
	partDigits = 9                         // decimal digits of a part
	maxDigits  = partDigits * api.MaxParts // decimal digits of an integer
	partBytes  = 4
	negByte    = 128 // what the first byte has if the integer is negative
)

// Read returns the integer of a text.
func Read(s string) (api.Int, api.Errno) {
	digits, neg := strings.CutPrefix(s, "-")
	if len(digits) > maxDigits {
		if allDigits(digits[:maxDigits+1]) && digits[0] != '0' {
			return api.Int{}, api.ErrLimit
		}
		return api.Int{}, api.ErrNumber
	}
	if digits == "" || !allDigits(digits) {
		return api.Int{}, api.ErrNumber
	}
	if digits[0] == '0' && s != "0" {
		return api.Int{}, api.ErrNumber
	}
	return signed(neg, readParts(digits)), api.OK
}

// allDigits reports whether a text has nothing but decimal digits.
func allDigits(s string) bool {
	for i := range len(s) {
		if s[i] < '0' || s[i] > '9' {
			return false
		}
	}
	return true
}

// readParts returns the parts of a number that is written in decimal digits.
func readParts(digits string) []int {
	var parts []int
	for end := len(digits); end > 0; end -= partDigits {
		part := 0
		for i := max(0, end-partDigits); i < end; i++ {
			part = part*10 + int(digits[i]-'0')
		}
		parts = append(parts, part)
	}
	return parts
}

// Text returns the text of an integer.
func Text(a api.Int) (string, api.Errno) {
	if e := Check(a); e != api.OK {
		return "", e
	}
	if len(a.D) == 0 {
		return "0", api.OK
	}
	var b strings.Builder
	if a.Neg {
		b.WriteByte('-')
	}
	width := 0 // the first part alone is written without zeros in front
	for part := range fromTop(a.D) {
		digits := strconv.Itoa(part)
		b.WriteString(strings.Repeat("0", max(0, width-len(digits))))
		b.WriteString(digits)
		width = partDigits
	}
	return b.String(), api.OK
}

// Digits returns the number of decimal digits.
func Digits(a api.Int) (int, api.Errno) {
	if e := Check(a); e != api.OK {
		return 0, e
	}
	if len(a.D) == 0 {
		return 1, api.OK
	}
	last := len(a.D) - 1
	return last*partDigits + len(strconv.Itoa(a.D[last])), api.OK
}

// Bytes returns the bytes of an integer.
func Bytes(a api.Int) ([]byte, api.Errno) {
	if e := Check(a); e != api.OK {
		return nil, e
	}
	first := byte(len(a.D))
	if a.Neg {
		first += negByte
	}
	b := []byte{first}
	for part := range fromTop(a.D) {
		b = append(b, byte(part>>24), byte(part>>16), byte(part>>8), byte(part))
	}
	return b, api.OK
}

// FromBytes returns the integer of bytes.
func FromBytes(b []byte) (api.Int, api.Errno) {
	if len(b) == 0 {
		return api.Int{}, api.ErrNumber
	}
	neg, count := b[0] >= negByte, int(b[0]%negByte)
	if len(b) != 1+partBytes*count {
		return api.Int{}, api.ErrNumber
	}
	a := api.Int{Neg: neg, D: make([]int, count)}
	for i := range count {
		at := 1 + partBytes*i
		a.D[count-1-i] = int(b[at])<<24 | int(b[at+1])<<16 | int(b[at+2])<<8 | int(b[at+3])
	}
	if Check(a) != api.OK {
		return api.Int{}, api.ErrNumber
	}
	return a, api.OK
}
