package tests

import (
	"math/rand"
	"slices"
	"testing"

	"loop.example/g00272/impl"
)

const topFrame = 1000000

// The sums are known ones: that of "123456789" is CBF43926, that of one nought D202EF8D.
func TestFramesByteByByte(t *testing.T) {
	for data, head := range map[string]string{
		"":          "\x00\x00\x00\x00\x00\x00\x00\x00",
		"\x00":      "\x00\x00\x00\x01\x8d\xef\x02\xd2",
		"a":         "\x00\x00\x00\x01\x43\xbe\xb7\xe8",
		"abc":       "\x00\x00\x00\x03\xc2\x41\x24\x35",
		"123456789": "\x00\x00\x00\x09\x26\x39\xf4\xcb",
		"The quick brown fox jumps over the lazy dog": "\x00\x00\x00\x2b\x39\xa3\x4f\x41",
		"\xff\xff\xff\xff":    "\x00\x00\x00\x04\xff\xff\xff\xff",
		longText("\x00", 256): "\x00\x00\x01\x00\x58\x85\x96\x0d",
	} {
		if got := impl.FrameOf(data); got != head+data {
			t.Errorf("%.20q: %.40q, not %.40q", data, got, head+data)
		}
	}
}

func TestFramesOfAllSizes(t *testing.T) {
	r := rand.New(rand.NewSource(190))
	for _, size := range []int{0, 1, 2, 7, 8, 255, 256, 257, 65535, 65536, 65537, 200000, topFrame - 1, topFrame} {
		data := someBytes(r, size)
		f := impl.FrameOf(data)
		if f != frameIn(data) {
			t.Errorf("%d bytes: the frame begins with %.20q, not %.20q", size, f, frameIn(data))
		}
		if list, end := impl.TakeFrames(f); len(list) != 1 || list[0] != data || end != int64(len(f)) {
			t.Errorf("%d bytes: %d frames are taken, up to %d", size, len(list), end)
		}
	}
	for _, size := range []int{topFrame + 1, topFrame + 2, 1 << 20, 1 << 24} {
		if f := impl.FrameOf(longText("x", size)); f != "" {
			t.Errorf("%d bytes: a frame of %d", size, len(f))
		}
	}
}

func checkFrames(t *testing.T, what string, s string, end int64, want ...string) {
	t.Helper()
	list, got := impl.TakeFrames(s)
	if got != end || !slices.Equal(list, want) {
		t.Errorf("%s: %d frames up to %d, not %d up to %d: %.100q", what, len(list), got, len(want), end, list)
	}
}

func TestFramesAreTakenOneBehindTheOther(t *testing.T) {
	a, b, none := impl.FrameOf("a"), impl.FrameOf("bcd"), impl.FrameOf("")
	checkFrames(t, "no text", "", 0)
	checkFrames(t, "one", a, 9, "a")
	checkFrames(t, "none in it", none, 8, "")
	checkFrames(t, "three", a+b+none, 28, "a", "bcd", "")
	checkFrames(t, "alike", a+a+a, 27, "a", "a", "a")
	checkFrames(t, "noughts", longText("\x00", 16), 16, "", "")
	checkFrames(t, "noughts and some", longText("\x00", 23), 16, "", "")
	checkFrames(t, "a frame in a frame", impl.FrameOf(a+b), 28, a+b)
	checkFrames(t, "what is none behind them", a+b+"x", 20, "a", "bcd")
	checkFrames(t, "what is none ahead of them", "x"+a, 0)
	checkFrames(t, "what is none between them", a+"x"+b, 9, "a")
	checkFrames(t, "a frame behind a broken one", a+b[:10]+b, 9, "a")
	checkFrames(t, "the sum's bytes the other way round", "\x00\x00\x00\x01\xe8\xb7\xbe\x43a", 0)
	checkFrames(t, "the size's bytes the other way round", "\x01\x00\x00\x00\x43\xbe\xb7\xe8a", 0)
}

func TestTextsThatEndWithinAFrame(t *testing.T) {
	a, b := impl.FrameOf("a frame"), impl.FrameOf("another\x00\n\xff")
	for cut := range len(b) {
		checkFrames(t, "cut", b[:cut], 0)
		checkFrames(t, "cut behind one", a+b[:cut], int64(len(a)), "a frame")
		checkFrames(t, "cut at its front", b[cut+1:], 0)
	}
}

func TestFramesWithOneBitTurnedOver(t *testing.T) {
	a, b := impl.FrameOf("ahead"), impl.FrameOf("123456789")
	for i := range 8 * len(b) {
		turned := []byte(b)
		turned[i/8] ^= 1 << (i % 8)
		checkFrames(t, "turned", string(turned), 0)
		checkFrames(t, "turned behind one", a+string(turned)+a, int64(len(a)), "ahead")
		checkFrames(t, "turned ahead of one", string(turned)+a, 0)
	}
}

// No frame has so many bytes, whatever its sum.
func TestFramesThatAreTooLong(t *testing.T) {
	long := longText("x", topFrame+1)
	if s := frameIn(long); len(s) != topFrame+9 {
		t.Fatal(len(s))
	}
	checkFrames(t, "one more", frameIn(long), 0)
	checkFrames(t, "one more behind another", impl.FrameOf("a")+frameIn(long)+impl.FrameOf("b"), 9, "a")
	checkFrames(t, "all that there may be", impl.FrameOf("a")+frameIn(long[1:])+impl.FrameOf("b"), topFrame+8+18, "a", long[1:], "b")
	for _, size := range []string{"\xff\xff\xff\xff", "\x80\x00\x00\x00", "\x7f\xff\xff\xff", "\x00\x0f\x42\x41"} {
		checkFrames(t, "a great size", size+"\x00\x00\x00\x00", 0)
		checkFrames(t, "a great size", size+"\x00\x00\x00\x00"+longText("y", 100), 0)
	}
}

func TestFramesByTheDocumentsWords(t *testing.T) {
	r := rand.New(rand.NewSource(191))
	for range 3000 {
		s := ""
		for range r.Intn(5) {
			s += impl.FrameOf(someBytes(r, r.Intn(12)))
		}
		if len(s) > 0 && r.Intn(2) == 0 {
			at := r.Intn(len(s))
			s = s[:at] + someBytes(r, r.Intn(3)) + s[at+r.Intn(2):]
		}
		want, end := framesIn(s)
		checkFrames(t, "some frames", s, int64(end), want...)
	}
}
