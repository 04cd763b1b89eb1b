package vane_test

import (
	"strings"
	"testing"

	"girouette/api"
	"girouette/vane"
)

// TestRun: P10.3, replies of a new shop, those that there are.
func TestRun(t *testing.T) {
	for text, want := range map[string]string{
		"":                          "",
		"\n":                        "",
		"\n\n\n":                    "",
		"#\n# two\n":                "",
		"holes":                     "holes 0 1\n",
		"holes\n":                   "holes 0 1\n",
		"\nholes":                   "holes 0 1\n",
		"\n\nholes\n\n":             "holes 0 1\n",
		"# of holes\nholes\n":       "holes 0 1\n",
		"bar 0 1\nbar 1 2\nabove":   "ok\nok\nabove 2\n",
		"bar 0 1\nbar 0 1":          "ok\nerror 5\n",
		"x\n\ny\n#\n \n":            "error 100\nerror 100\nerror 100\n",
		"teams 4\r\nbreaks\r\n":     "error 100\nerror 100\n",
		"breaks\nteams 4\nbreaks":   "breaks 0\nok\nbreaks 2\n",
		"torsion":                   "torsion\n",
		"labels\nbar 2 3\nlabels\n": "error 20\nok\nlabels 0\n",
		"bar 0 1\nbar 1 2\nbar 2 3\nbar 3 4\nlabels": "ok\nok\nok\nok\nlabels 8\n",
		"\x00\n\xff\n": "error 100\nerror 100\n",
	} {
		for range 2 {
			if got, e := vane.Run(text); got != want || e != api.OK {
				t.Errorf("%q: %q %d, want %q", text, got, e, want)
			}
		}
	}
}

// TestRunLongLines: P10.3, a line with too many bytes is refused as Do does it, and the others are done.
func TestRunLongLines(t *testing.T) {
	long, most := strings.Repeat("#", api.MaxLine+1), strings.Repeat("#", api.MaxLine)
	got, e := vane.Run("bar 0 1\n" + long + "\n" + most + "\n" + strings.Repeat("x", 5000) + "\nabove\n" + long)
	if got != "ok\nerror 2\nerror 2\nabove 2\nerror 2\n" || e != api.OK {
		t.Error(got, e)
	}
}

// TestRunBytes: P10.3, how many bytes a text may have.
func TestRunBytes(t *testing.T) {
	line := strings.Repeat("#", 511) + "\n"
	most := strings.Repeat(line, 127) + "holes\n"
	for len(most) < 65536 {
		most += "#"
	}
	if got, e := vane.Run(most); got != "holes 0 1\n" || e != api.OK {
		t.Error(got, e)
	}
	if got, e := vane.Run(strings.Repeat("x", 65536)); got != "error 2\n" || e != api.OK {
		t.Error(got, e)
	}
	for _, text := range []string{most + "#", most + "\n", strings.Repeat("x", 65537), strings.Repeat("#", 1<<20), strings.Repeat("é", 32769)} {
		if got, e := vane.Run(text); got != "" || e != api.ErrLong {
			t.Error(len(text), got, e)
		}
	}
}

// TestRunFeeds: P10.3, how many line feeds a text may have, whatever the lines are.
func TestRunFeeds(t *testing.T) {
	for _, line := range []string{"", "#", "holes", "x", "bar 0 1"} {
		text := strings.Repeat(line+"\n", api.MaxLines)
		alone, _ := vane.Run(line)
		got, e := vane.Run(text + line)
		if e != api.OK || strings.Count(got, "\n") != (api.MaxLines+1)*strings.Count(alone, "\n") {
			t.Errorf("%q: %.50q %d", line, got, e)
		}
		if got, e := vane.Run(text + line + "\n"); got != "" || e != api.ErrLong {
			t.Errorf("%q: %.50q %d", line, got, e)
		}
	}
	if got, e := vane.Run(strings.Repeat("\n", 65536)); got != "" || e != api.ErrLong {
		t.Error(got, e)
	}
}

// TestRunApart: P10.3, each text has a shop of its own.
func TestRunApart(t *testing.T) {
	for _, line := range changes {
		for _, q := range questions {
			want, _ := vane.Run(q)
			vane.Run(line)
			if got, e := vane.Run(q); got != want || e != api.OK {
				t.Error(line, q, got, want, e)
			}
		}
	}
}
