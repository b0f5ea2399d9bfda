package tests

import (
	"math"
	"slices"
	"strconv"
	"strings"
	"testing"

	"loop.example/g00330/impl"
)

// someNumbers are the edges of each length of VarText, and numbers spread between them.
func someNumbers() []int {
	list := []int{0, 1, 126, 127, 128, 129, 255, 256, 300, 16383, 16384, 2097151, 2097152, 268435455, 268435456, impl.MaxNumber - 1, impl.MaxNumber}
	for n := 2; n < 70000; n++ {
		list = append(list, n)
	}
	for n := 70000; n < impl.MaxNumber; n += 99991 {
		list = append(list, n)
	}
	return list
}

func wrongNumbers() []int {
	return []int{-1, -128, impl.MaxNumber + 1, math.MaxInt32, math.MaxInt, math.MinInt}
}

func allBytes() string {
	all := make([]byte, 256)
	for i := range all {
		all[i] = byte(i)
	}
	return string(all)
}

func someTexts() []string {
	return []string{
		"", "a", "\x00", "\x80", "text", allBytes(), strings.Repeat("x", 127), strings.Repeat("y", 128),
		strings.Repeat("z", 16384), strings.Repeat("\xff", impl.MaxText-1), strings.Repeat("\x80", impl.MaxText),
	}
}

func TestLimits(t *testing.T) {
	if impl.MaxText != 20000 || impl.MaxNumber != 1000000000 || impl.MaxWords != 600 || impl.MaxParts != 10 {
		t.Error("a limit is not the document's")
	}
}

func TestVarTextBytes(t *testing.T) {
	for n, want := range map[int]string{
		0: "\x00", 1: "\x01", 127: "\x7f", 128: "\x80\x01", 129: "\x81\x01", 300: "\xac\x02",
		16383: "\xff\x7f", 16384: "\x80\x80\x01", impl.MaxNumber: "\x80\x94\xeb\xdc\x03",
	} {
		if got, ok := impl.VarText(n); !ok || got != want {
			t.Errorf("VarText(%d) = %q, %v, want %q", n, got, ok, want)
		}
	}
}

func TestVarTextRefuses(t *testing.T) {
	for _, n := range wrongNumbers() {
		if got, ok := impl.VarText(n); ok || got != "" {
			t.Errorf("VarText(%d) = %q, %v", n, got, ok)
		}
	}
}

func TestVarTextIsReadBack(t *testing.T) {
	for _, n := range someNumbers() {
		text, ok := impl.VarText(n)
		if !ok {
			t.Fatalf("VarText(%d) is refused", n)
		}
		for _, ahead := range []string{"", "\x00", "\x80\xff"} {
			for _, behind := range []string{"", "\x00", "\xff"} {
				end := len(ahead) + len(text)
				got, at, ok := impl.ReadVar(ahead+text+behind, len(ahead))
				if !ok || got != n || at != end {
					t.Fatalf("ReadVar(%q, %d) = %d, %d, %v, want %d, %d", ahead+text+behind, len(ahead), got, at, ok, n, end)
				}
			}
		}
		for cut := range len(text) {
			refusesVar(t, text[:cut], 0)
		}
	}
}

func refusesVar(t *testing.T, text string, at int) {
	t.Helper()
	if n, end, ok := impl.ReadVar(text, at); ok || n != 0 || end != 0 {
		t.Errorf("ReadVar(%q, %d) = %d, %d, %v", text, at, n, end, ok)
	}
}

func TestReadVarPlaces(t *testing.T) {
	for _, at := range []int{-1, -5, 3, 4, 100, math.MaxInt, math.MinInt} {
		refusesVar(t, "\x01\x02\x03", at)
	}
	for _, at := range []int{-1, 0, 1, math.MaxInt, math.MinInt} {
		refusesVar(t, "", at)
	}
}

func TestReadVarLongerForms(t *testing.T) {
	for _, text := range []string{
		"\x80\x00", "\x81\x00", "\xff\x00", "\xac\x82\x00", "\x80\x80\x00", "\x80\x81\x80\x00", "\x80\x94\xeb\xdc\x83\x00",
		"\x80\x80\x80\x80\x00", "\x80\x80\x80\x80\x80\x00", "\x81\x80\x80\x80\x80\x80\x80\x80\x80\x80\x00",
	} {
		refusesVar(t, text, 0)
		refusesVar(t, "\x05"+text+"\x01", 1)
	}
}

func TestReadVarTooGreat(t *testing.T) {
	for _, text := range []string{
		"\x81\x94\xeb\xdc\x03", "\x80\x94\xeb\xdc\x04", "\xff\xff\xff\xff\x03", "\xff\xff\xff\xff\x7f",
		"\x80\x80\x80\x80\x80\x01", "\xff\xff\xff\xff\xff\x7f",
	} {
		refusesVar(t, text, 0)
	}
	// Whatever its length, a row whose scale would wrap round tells no number.
	for n := 5; n < 80; n++ {
		for _, last := range []string{"", "\x00", "\x01", "\x02", "\x7f"} {
			refusesVar(t, strings.Repeat("\x80", n)+last, 0)
			refusesVar(t, strings.Repeat("\xff", n)+last, 0)
			refusesVar(t, "\x85"+strings.Repeat("\x80", n)+last, 0)
		}
	}
}

// Every text of two bytes, and many of three, are held against the rule itself: one is read just when it begins with the VarText of what is read.
func TestReadVarEveryShortText(t *testing.T) {
	for a := range 256 {
		for b := range 256 {
			for _, c := range []int{-1, 0, 1, 2, 127, 128, 129, 255} {
				text := string([]byte{byte(a), byte(b)})
				if c >= 0 {
					text += string([]byte{byte(c)})
				}
				holdVar(t, text)
			}
		}
	}
}

func holdVar(t *testing.T, text string) {
	t.Helper()
	n, scale, want, end := 0, 1, -1, 0
	for i := range len(text) {
		n += int(text[i]) % 128 * scale
		scale *= 128
		if text[i] < 128 {
			if same, _ := impl.VarText(n); same == text[:i+1] {
				want, end = n, i+1
			}
			break
		}
	}
	got, at, ok := impl.ReadVar(text, 0)
	if ok != (want >= 0) || ok && (got != want || at != end) || !ok && (got != 0 || at != 0) {
		t.Fatalf("ReadVar(%q, 0) = %d, %d, %v, want %d, %d", text, got, at, ok, want, end)
	}
}

func TestShortTextBytes(t *testing.T) {
	for s, want := range map[string]string{"": "\x00", "a": "\x01a", "key": "\x03key", "\x00\xff": "\x02\x00\xff"} {
		if got, ok := impl.ShortText(s); !ok || got != want {
			t.Errorf("ShortText(%q) = %q, %v, want %q", s, got, ok, want)
		}
	}
	if got, ok := impl.ShortText(strings.Repeat("q", 300)); !ok || got != "\xac\x02"+strings.Repeat("q", 300) {
		t.Error("ShortText of 300 bytes")
	}
}

func TestShortTextIsReadBack(t *testing.T) {
	for _, s := range someTexts() {
		text, ok := impl.ShortText(s)
		if !ok {
			t.Fatalf("ShortText of %d bytes is refused", len(s))
		}
		for _, ahead := range []string{"", "\x01", "\x80\x80"} {
			for _, behind := range []string{"", "\x00", "more"} {
				got, at, ok := impl.ReadShort(ahead+text+behind, len(ahead))
				if !ok || got != s || at != len(ahead)+len(text) {
					t.Fatalf("ReadShort of %d bytes behind %q, ahead of %q: %d bytes, %d, %v", len(s), ahead, behind, len(got), at, ok)
				}
			}
		}
		for _, cut := range []int{0, 1, len(text) / 2, len(text) - 1} {
			if cut < len(text) {
				refusesShort(t, text[:cut], 0)
			}
		}
	}
}

func refusesShort(t *testing.T, text string, at int) {
	t.Helper()
	if s, end, ok := impl.ReadShort(text, at); ok || s != "" || end != 0 {
		t.Errorf("ReadShort of %d bytes at %d = %d bytes, %d, %v", len(text), at, len(s), end, ok)
	}
}

func TestShortTextRefuses(t *testing.T) {
	for _, n := range []int{impl.MaxText + 1, 2 * impl.MaxText} {
		if got, ok := impl.ShortText(strings.Repeat("a", n)); ok || got != "" {
			t.Errorf("ShortText of %d bytes = %d bytes, %v", n, len(got), ok)
		}
	}
}

func TestReadShortRefuses(t *testing.T) {
	for _, at := range []int{-1, 3, 4, 5, math.MaxInt, math.MinInt} {
		refusesShort(t, "\x00\x00\x01", at)
	}
	for _, text := range []string{"", "\x01", "\x02a", "\x80", "\x80\x00", "\x81\x00a", "\x83\x00abc", "\xff\xff\xff\xff\x7fabc", "\x80\x94\xeb\xdc\x03abc"} {
		refusesShort(t, text, 0)
	}
	head, _ := impl.VarText(impl.MaxText + 1)
	refusesShort(t, head+strings.Repeat("a", impl.MaxText+1), 0)
	refusesShort(t, head+strings.Repeat("a", 2*impl.MaxText), 0)
}

func TestHexFigures(t *testing.T) {
	for text, want := range map[string]string{"": "", "\x00": "00", "\x0f": "0f", "\xf0": "f0", "\x19\xab\xcd\xef": "19abcdef", "Az": "417a"} {
		if got, ok := impl.Hex(text); !ok || got != want {
			t.Errorf("Hex(%q) = %q, %v, want %q", text, got, ok, want)
		}
	}
}

func TestHexIsReadBack(t *testing.T) {
	for _, text := range someTexts() {
		figures, ok := impl.Hex(text)
		if !ok || len(figures) != 2*len(text) {
			t.Fatalf("Hex of %d bytes = %d figures, %v", len(text), len(figures), ok)
		}
		if got, ok := impl.Unhex(figures); !ok || got != text {
			t.Errorf("Unhex of %d figures = %d bytes, %v", len(figures), len(got), ok)
		}
	}
}

func TestHexRefuses(t *testing.T) {
	for _, n := range []int{impl.MaxText + 1, 2 * impl.MaxText} {
		if got, ok := impl.Hex(strings.Repeat("a", n)); ok || got != "" {
			t.Errorf("Hex of %d bytes = %d figures, %v", n, len(got), ok)
		}
	}
}

func TestUnhexRefuses(t *testing.T) {
	wrong := []string{"0", "000", "0A", "A0", "FF", "fg", "g0", " 0", "0 ", "-1", "0x", "00\n", "0a0B", "\xc3\xa9"}
	wrong = append(wrong, strings.Repeat("0", 2*impl.MaxText+1), strings.Repeat("0", 2*impl.MaxText+2))
	for b := range 256 {
		if !strings.Contains("0123456789abcdef", string([]byte{byte(b)})) {
			wrong = append(wrong, string([]byte{byte(b), '0'}), string([]byte{'0', byte(b)}), string([]byte{'a', 'b', '0', byte(b)}))
		}
	}
	for _, text := range wrong {
		if got, ok := impl.Unhex(text); ok || got != "" {
			t.Errorf("Unhex(%.40q) = %q, %v", text, got, ok)
		}
	}
}

func TestDecimalFigures(t *testing.T) {
	for n, want := range map[int]string{
		0: "0", 7: "7", 10: "10", 100: "100", 907: "907", -1: "-1", -5: "-5", -10: "-10", impl.MaxNumber: "1000000000",
		math.MaxInt: "9223372036854775807", math.MinInt: "-9223372036854775808", math.MinInt + 1: "-9223372036854775807",
	} {
		if got := impl.Decimal(n); got != want {
			t.Errorf("Decimal(%d) = %q, want %q", n, got, want)
		}
	}
}

func TestDecimalIsReadBack(t *testing.T) {
	for _, n := range someNumbers() {
		if text := impl.Decimal(n); text != strconv.Itoa(n) {
			t.Fatalf("Decimal(%d) = %q", n, text)
		}
		if got, ok := impl.ReadDecimal(impl.Decimal(n)); !ok || got != n {
			t.Fatalf("ReadDecimal of Decimal(%d) = %d, %v", n, got, ok)
		}
	}
}

func TestReadDecimalRefuses(t *testing.T) {
	wrong := []string{
		"", " ", "-", "+", "-0", "-1", "+1", "00", "01", "007", "0000000000", "0000000001", "01000000000", "1 ", " 1", "1.0", "1e3", "1_0", "0x1", "a", "1a", "a1",
		"1000000001", "1999999999", "9999999999", "10000000000", "9223372036854775807", "18446744073709551616", "18446744073709551617", "\xd9\xa1",
		strings.Repeat("0", 50), strings.Repeat("1", 50), strings.Repeat("9", 30000),
	}
	for _, n := range wrongNumbers() {
		wrong = append(wrong, impl.Decimal(n))
	}
	for b := range 256 {
		if b < '0' || b > '9' {
			wrong = append(wrong, string([]byte{byte(b)}), string([]byte{'1', byte(b)}), string([]byte{byte(b), '1'}), string([]byte{'0', byte(b)}))
		}
	}
	for _, text := range wrong {
		if got, ok := impl.ReadDecimal(text); ok || got != 0 {
			t.Errorf("ReadDecimal(%.40q) = %d, %v", text, got, ok)
		}
	}
}

func TestPartsOf(t *testing.T) {
	for _, c := range []struct {
		line string
		want []string
	}{
		{"", nil},
		{" ", nil},
		{"     ", nil},
		{"a", []string{"a"}},
		{"a b", []string{"a", "b"}},
		{" tick  1 2 ", []string{"tick", "1", "2"}},
		{"   offer set   abc 12   ", []string{"offer", "set", "abc", "12"}},
		{"# !\"~ b b", []string{"#", "!\"~", "b", "b"}},
		{"1 2 3 4 5 6 7 8 9 10", []string{"1", "2", "3", "4", "5", "6", "7", "8", "9", "10"}},
		{"  1 2 3 4 5  6 7 8 9 10  ", []string{"1", "2", "3", "4", "5", "6", "7", "8", "9", "10"}},
		{strings.Repeat(" ", impl.MaxWords), nil},
		{strings.Repeat("w", impl.MaxWords), []string{strings.Repeat("w", impl.MaxWords)}},
		{strings.Repeat(" ", impl.MaxWords-1) + "w", []string{"w"}},
	} {
		if got, ok := impl.PartsOf(c.line); !ok || !slices.Equal(got, c.want) {
			t.Errorf("PartsOf(%.40q) = %q, %v, want %q", c.line, got, ok, c.want)
		}
	}
}

func TestPartsOfRefuses(t *testing.T) {
	wrong := []string{
		"1 2 3 4 5 6 7 8 9 10 11", "  1 2 3 4 5 6 7 8 9 10  11  ", strings.Repeat("a ", 300),
		strings.Repeat("w", impl.MaxWords+1), strings.Repeat(" ", impl.MaxWords+1), strings.Repeat(" ", impl.MaxWords) + "w",
	}
	for _, line := range wrong {
		refusesParts(t, line)
	}
}

func TestPartsOfBytes(t *testing.T) {
	for b := range 256 {
		one := string([]byte{byte(b)})
		for _, line := range []string{one, one + "a", "a" + one, "a " + one + " a", "  " + one} {
			if b < 32 || b > 126 {
				refusesParts(t, line)
			} else if got, ok := impl.PartsOf(line); !ok || strings.Join(got, "") != strings.ReplaceAll(line, " ", "") {
				t.Errorf("PartsOf(%q) = %q, %v", line, got, ok)
			}
		}
	}
}

func refusesParts(t *testing.T, line string) {
	t.Helper()
	if got, ok := impl.PartsOf(line); ok || len(got) != 0 {
		t.Errorf("PartsOf(%.40q) = %q, %v", line, got, ok)
	}
}
