package impl

import (
	"strconv"
	"strings"
)

const (
	MaxText   = 20000
	MaxNumber = 1000000000
	MaxWords  = 600
	MaxParts  = 10
)

const hexFigures = "0123456789abcdef"

// MaxNumber is the longest that is written: more bytes or figures than it has tell no number.
const (
	maxVarBytes = 5
	maxFigures  = 10
)

func VarText(n int) (string, bool) {
	if n < 0 || n > MaxNumber {
		return "", false
	}
	var out []byte
	for n > 127 {
		out = append(out, byte(n%128+128))
		n /= 128
	}
	return string(append(out, byte(n))), true
}

func ReadVar(text string, at int) (int, int, bool) {
	if at < 0 || at > len(text) {
		return 0, 0, false
	}
	n, scale := 0, 1
	// Without an end to it, a long row of bytes above 127 would wrap the scale round.
	end := min(len(text), at+maxVarBytes)
	for i := at; i < end; i++ {
		b := int(text[i])
		n += b % 128 * scale
		scale *= 128
		if b > 127 {
			continue
		}
		// A last byte 0 adds nothing: the number has a shorter form, which is the one written.
		if n > MaxNumber || b == 0 && i > at {
			break
		}
		return n, i + 1, true
	}
	return 0, 0, false
}

func ShortText(s string) (string, bool) {
	if len(s) > MaxText {
		return "", false
	}
	head, ok := VarText(len(s))
	return head + s, ok
}

func ReadShort(text string, at int) (string, int, bool) {
	size, start, ok := ReadVar(text, at)
	if !ok || size > MaxText || size > len(text)-start {
		return "", 0, false
	}
	return strings.Clone(text[start : start+size]), start + size, true
}

func Hex(text string) (string, bool) {
	if len(text) > MaxText {
		return "", false
	}
	out := make([]byte, 0, 2*len(text))
	for i := range len(text) {
		out = append(out, hexFigures[text[i]>>4], hexFigures[text[i]&15])
	}
	return string(out), true
}

func Unhex(text string) (string, bool) {
	if len(text)%2 != 0 || len(text) > 2*MaxText {
		return "", false
	}
	out := make([]byte, len(text)/2)
figures:
	for i := range len(text) {
		for value := range len(hexFigures) {
			if text[i] == hexFigures[value] {
				out[i/2] = out[i/2]<<4 | byte(value)
				continue figures
			}
		}
		return "", false
	}
	return string(out), true
}

func Decimal(n int) string { return strconv.Itoa(n) }

func ReadDecimal(text string) (int, bool) {
	if text == "" || len(text) > maxFigures {
		return 0, false
	}
	n := 0
figures:
	for i := range len(text) {
		switch b := text[i]; {
		case b < '0' || b > '9':
			return 0, false
		case b == '0' && i == 0:
			// Only 0 itself begins with a nought, and nothing stands behind it.
			break figures
		default:
			n = 10*n + int(b-'0')
		}
	}
	if n > MaxNumber || n == 0 && len(text) > 1 {
		return 0, false
	}
	return n, true
}

func PartsOf(line string) ([]string, bool) {
	if len(line) > MaxWords {
		return nil, false
	}
	for i := range len(line) {
		if line[i] < 32 || line[i] > 126 {
			return nil, false
		}
	}
	var parts []string
	for _, part := range strings.Split(line, " ") {
		if part != "" {
			parts = append(parts, strings.Clone(part))
		}
	}
	if len(parts) > MaxParts {
		return nil, false
	}
	return parts, true
}
