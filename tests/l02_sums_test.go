package tests

import (
	"strings"
	"testing"

	"loop.example/g00330/impl"
)

// plainSum goes bit by bit, in the chapter's own words.
func plainSum(sum uint32, text string) uint32 {
	for i := range len(text) {
		sum ^= uint32(text[i])
		for range 8 {
			odd := sum%2 == 1
			sum /= 2
			if odd {
				sum ^= 3558460437
			}
		}
	}
	return sum
}

func someSums() []uint32 {
	list := []uint32{0, 1, 2, 127, 128, 255, 256, 65535, 65536, 1 << 31, 1<<31 - 1, 3558460437, 4294967294, 4294967295}
	for bit := range 32 {
		list = append(list, 1<<bit, ^uint32(1<<bit))
	}
	for n := range uint32(500) {
		list = append(list, n*2654435761)
	}
	return list
}

func sealed(t *testing.T, text string) string {
	t.Helper()
	s, ok := impl.Sealed(text)
	if !ok {
		t.Fatalf("Sealed of %d bytes is refused", len(text))
	}
	return s
}

func refusesUnsealed(t *testing.T, text string, what string) {
	t.Helper()
	if got, ok := impl.Unsealed(text); ok || got != "" {
		t.Errorf("Unsealed of %s answers %d bytes, %v", what, len(got), ok)
	}
}

func TestSumMoreOfNothing(t *testing.T) {
	for _, sum := range someSums() {
		if got := impl.SumMore(sum, ""); got != sum {
			t.Errorf("SumMore(%d, nothing) = %d", sum, got)
		}
	}
}

func TestSumMoreOfOneByte(t *testing.T) {
	for _, sum := range someSums() {
		for b := range 256 {
			text := string([]byte{byte(b)})
			if got, want := impl.SumMore(sum, text), plainSum(sum, text); got != want {
				t.Fatalf("SumMore(%d, %q) = %d, want %d", sum, text, got, want)
			}
		}
	}
}

func TestSumMoreOfManyBytes(t *testing.T) {
	texts := append(someTexts(), strings.Repeat(allBytes(), 3), strings.Repeat("long", impl.MaxText))
	for _, text := range texts {
		for _, sum := range []uint32{0, 1, 1 << 31, 3558460437, 4294967295} {
			if got, want := impl.SumMore(sum, text), plainSum(sum, text); got != want {
				t.Errorf("SumMore(%d, %d bytes) = %d, want %d", sum, len(text), got, want)
			}
		}
	}
}

// Figures that are known by themselves tell a fault that plainSum would share with the program.
func TestSumFigures(t *testing.T) {
	for text, want := range map[string]uint32{"\x00": 0, "\x80": 3558460437, "\x40": 3558460437/2 ^ 3558460437} {
		if got := impl.SumMore(0, text); got != want {
			t.Errorf("SumMore(0, %q) = %d, want %d", text, got, want)
		}
	}
	if got := impl.SumMore(256, "\x00"); got != 1 {
		t.Errorf("SumMore(256, a byte 0) = %d, want 1", got)
	}
	if got := impl.SumMore(1<<31, "\x00"); got != 1<<23 {
		t.Errorf("SumMore(1<<31, a byte 0) = %d, want 1<<23", got)
	}
	// The polynomial is that of CRC-32D, whose known check value is this sum with every bit turned.
	if got := ^impl.SumOf("123456789"); got != 0x87315576 {
		t.Errorf("SumOf(123456789), turned, = %#x", got)
	}
}

func TestSumMoreGoesOn(t *testing.T) {
	for _, text := range []string{"", "a", "ab", "a longer text", allBytes(), strings.Repeat("\x00\xff", 200)} {
		for at := range len(text) + 1 {
			if got, want := impl.SumMore(impl.SumOf(text[:at]), text[at:]), impl.SumOf(text); got != want {
				t.Fatalf("the sum of %q in two pieces at %d is %d, want %d", text, at, got, want)
			}
			for _, sum := range []uint32{0, 1, 3558460437} {
				if got, want := impl.SumMore(impl.SumMore(sum, text[:at]), text[at:]), impl.SumMore(sum, text); got != want {
					t.Fatalf("SumMore(%d, %q) in two pieces at %d is %d, want %d", sum, text, at, got, want)
				}
			}
		}
	}
}

func TestSumOf(t *testing.T) {
	if got := impl.SumOf(""); got != 4294967295 {
		t.Errorf("SumOf(nothing) = %d", got)
	}
	for _, text := range someTexts() {
		if got, want := impl.SumOf(text), plainSum(4294967295, text); got != want {
			t.Errorf("SumOf(%d bytes) = %d, want %d", len(text), got, want)
		}
	}
}

func TestSealedBytes(t *testing.T) {
	if got := sealed(t, ""); got != "\xff\xff\xff\xff" {
		t.Errorf("Sealed(nothing) = %q", got)
	}
	for _, text := range append(someTexts(), "abc") {
		sum := plainSum(4294967295, text)
		want := text + string([]byte{byte(sum / 16777216), byte(sum / 65536), byte(sum / 256), byte(sum)})
		if got := sealed(t, text); got != want {
			t.Errorf("Sealed(%d bytes) does not end with its sum, the highest byte first", len(text))
		}
	}
}

func TestSealedRefuses(t *testing.T) {
	for _, more := range []int{1, 2, 4, 5, impl.MaxText} {
		if got, ok := impl.Sealed(strings.Repeat("t", impl.MaxText+more)); ok || got != "" {
			t.Errorf("Sealed of MaxText + %d answers %d bytes, %v", more, len(got), ok)
		}
	}
}

func TestSealedIsUnsealed(t *testing.T) {
	for _, text := range someTexts() {
		if got, ok := impl.Unsealed(sealed(t, text)); !ok || got != text {
			t.Errorf("Unsealed of %d sealed bytes = %d bytes, %v", len(text), len(got), ok)
		}
		twice := text
		if len(text) <= impl.MaxText-4 {
			twice = sealed(t, text)
		}
		if got, ok := impl.Unsealed(sealed(t, twice)); !ok || got != twice {
			t.Errorf("Unsealed of %d bytes sealed twice = %d bytes, %v", len(text), len(got), ok)
		}
	}
}

func TestUnsealedOfOneByteTurned(t *testing.T) {
	for _, text := range []string{"", "a", "\x00", "abc", "some longer text", "\x00\x00\x00\x00", "\xff\xff\xff\xff"} {
		whole := sealed(t, text)
		for at := range len(whole) {
			for turn := 1; turn < 256; turn++ {
				bytes := []byte(whole)
				bytes[at] ^= byte(turn)
				refusesUnsealed(t, string(bytes), "a text with one byte turned")
			}
		}
	}
}

func TestUnsealedOfOneByteTurnedInLongTexts(t *testing.T) {
	for _, text := range []string{allBytes(), strings.Repeat("z", 2000), strings.Repeat("\x80", impl.MaxText)} {
		whole := sealed(t, text)
		for _, at := range []int{0, 1, len(text) / 2, len(text) - 1, len(text), len(text) + 1, len(text) + 2, len(text) + 3} {
			for _, turn := range []byte{1, 128, 255} {
				bytes := []byte(whole)
				bytes[at] ^= turn
				refusesUnsealed(t, string(bytes), "a long text with one byte turned")
			}
		}
	}
}

func TestUnsealedRefuses(t *testing.T) {
	for _, text := range []string{"", "\xff", "\xff\xff", "\xff\xff\xff", "abc", "\x00\x00\x00\x00", "abcd", "\xff\xff\xff\xff\xff"} {
		refusesUnsealed(t, text, "a text that nothing is sealed as")
	}
	whole := sealed(t, "a text")
	for cut := range len(whole) {
		refusesUnsealed(t, whole[:cut], "a text that is cut off")
	}
	for cut := 1; cut < len(whole); cut++ {
		refusesUnsealed(t, whole[cut:], "a text without its beginning")
	}
	for b := range 256 {
		refusesUnsealed(t, string([]byte{byte(b)})+whole, "a text with a byte ahead")
		refusesUnsealed(t, whole+string([]byte{byte(b)}), "a text with a byte behind")
	}
	// The lowest byte first is another text.
	n := len(whole)
	refusesUnsealed(t, whole[:n-4]+string([]byte{whole[n-1], whole[n-2], whole[n-3], whole[n-4]}), "a sum turned round")
}

func TestUnsealedLimit(t *testing.T) {
	for _, size := range []int{impl.MaxText - 1, impl.MaxText, impl.MaxText + 1, impl.MaxText + 4, impl.MaxText + 5} {
		text := strings.Repeat("l", size)
		sum := plainSum(4294967295, text)
		whole := text + string([]byte{byte(sum >> 24), byte(sum >> 16), byte(sum >> 8), byte(sum)})
		if size > impl.MaxText {
			refusesUnsealed(t, whole, "a text longer than MaxText with its right sum")
		} else if got, ok := impl.Unsealed(whole); !ok || got != text {
			t.Errorf("Unsealed of %d bytes with their sum = %d bytes, %v", size, len(got), ok)
		}
	}
}
