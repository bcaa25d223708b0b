package schedule_test

import (
	"bytes"
	"math"
	"testing"

	"synod/api"
	"synod/schedule"
)

// P1605: Tag against the words: of Confirm, and of no other secret.
func TestTag(t *testing.T) {
	s := checkEpoch(t, sample(1, 32), sample(2, 32), context(7, 3, 32, 32))
	for _, n := range lengths {
		text := sample(int64(n), n)
		want := slowTag(s.Confirm, text)
		if got := schedule.Tag(s, text); !bytes.Equal(got, want) {
			t.Errorf("of %d bytes: %x, not %x", n, got, want)
		}
		if got := schedule.Tag(schedule.Secrets{Confirm: s.Confirm}, text); !bytes.Equal(got, want) {
			t.Errorf("of Confirm alone, %d bytes: %x, not %x", n, got, want)
		}
		if got := schedule.Tag(schedule.Secrets{Confirm: text}, sample(3, 32)); !bytes.Equal(got, slowTag(text, sample(3, 32))) {
			t.Errorf("by a key of %d bytes: %x", n, got)
		}
	}
}

// P1605: Confirmed against the words.
func TestConfirmed(t *testing.T) {
	for _, n := range lengths {
		for _, m := range lengths {
			interim, content := sample(int64(n), n), sample(int64(m+1), m)
			if got := schedule.Confirmed(interim, content); !bytes.Equal(got, slowSum(interim, content)) {
				t.Errorf("of %d and %d bytes: %x", n, m, got)
			}
		}
	}
}

// P1605: Interim against the words: with the vector of the tag, the tag itself.
func TestInterim(t *testing.T) {
	for _, n := range lengths {
		for _, m := range []int{0, 1, 32, 63, 64, 65, 128, 254, 255} {
			confirmed, tag := sample(int64(n), n), sample(int64(m+1), m)
			if got := schedule.Interim(confirmed, tag); !bytes.Equal(got, slowSum(confirmed, slowVector(tag))) {
				t.Errorf("of %d and %d bytes: %x", n, m, got)
			}
		}
		for _, m := range []int{256, 257, 511, 512, 16384, api.MaxBytes, api.MaxBytes + 1, 1 << 20} {
			if got := schedule.Interim(sample(int64(n), n), make([]byte, m)); len(got) != 0 {
				t.Errorf("of %d and %d bytes: %x", n, m, got)
			}
		}
	}
}

func checkExport(t *testing.T, s schedule.Secrets, label string, context []byte, n int) {
	t.Helper()
	want := slowExpand(t, slowExpand(t, s.Exporter, label, nil, 32), "exported", slowSum(context), n)
	if got, e := schedule.Export(s, label, context, n); e != api.OK || !bytes.Equal(got, want) {
		t.Errorf("%d and %d bytes, %d: %d bytes, error %d", len(label), len(context), n, len(got), e)
	}
}

// P1605: Export against the words: of Exporter, and of no other secret.
func TestExport(t *testing.T) {
	whole := checkEpoch(t, sample(1, 32), sample(2, 32), context(7, 3, 32, 32))
	for _, s := range []schedule.Secrets{whole, {Exporter: whole.Exporter}, {}, {Exporter: sample(1, 100)}} {
		for _, n := range []int{0, 1, 20, 31, 32, 33, 255, 256, 8159, 8160} {
			checkExport(t, s, "l", nil, n)
			checkExport(t, s, "", sample(3, n), 32)
			checkExport(t, s, string(sample(4, n)), []byte("context"), 32)
		}
		checkExport(t, s, string(sample(5, maxLabel-1)), nil, 32)
		checkExport(t, s, string(sample(5, maxLabel)), nil, 32)
		for _, n := range []int{maxLabel, maxLabel + 1, api.MaxBytes, api.MaxBytes + 1, 1 << 18} {
			checkExport(t, s, "a context may have any length", sample(6, n), 32)
		}
	}
}

// P1605: Export's errors.
func TestExportRefused(t *testing.T) {
	s := checkEpoch(t, sample(1, 32), sample(2, 32), schedule.Context{})
	refused := func(s schedule.Secrets, label string, context []byte, n int) {
		t.Helper()
		if b, e := schedule.Export(s, label, context, n); e != api.ErrSize || len(b) != 0 {
			t.Errorf("%d and %d bytes, %d: %d bytes, error %d", len(label), len(context), n, len(b), e)
		}
	}
	for _, n := range []int{-1, -2, -32, 8161, 8162, 65535, 65536, 65536 + 32, 1<<32 + 32, math.MaxInt, math.MinInt, math.MinInt + 32} {
		refused(s, "l", nil, n)
		refused(s, "", []byte("context"), n)
		refused(schedule.Secrets{}, "l", nil, n)
		refused(s, string(make([]byte, maxLabel+1)), nil, n)
	}
	for _, n := range []int{maxLabel + 1, maxLabel + 8, api.MaxBytes, api.MaxBytes + 1, 1 << 20} {
		for _, m := range []int{0, 1, 32, 8160} {
			refused(s, string(make([]byte, n)), nil, m)
			refused(schedule.Secrets{}, string(make([]byte, n)), sample(1, 100), m)
		}
	}
}
