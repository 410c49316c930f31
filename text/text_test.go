package text

import (
	"reflect"
	"testing"
)

func TestSplit(t *testing.T) {
	for _, c := range []struct {
		s, between string
		want       []string
	}{
		{"", " ", []string{""}}, {" ", " ", []string{"", ""}}, {"a", " ", []string{"a"}}, {"a b", " ", []string{"a", "b"}},
		{"a  b ", " ", []string{"a", "", "b", ""}}, {" a", " ", []string{"", "a"}}, {"a\tb", " ", []string{"a\tb"}},
		{"", ", ", []string{""}}, {",", ", ", []string{","}}, {", ", ", ", []string{"", ""}}, {"a,b", ", ", []string{"a,b"}}, {"a, b", ", ", []string{"a", "b"}},
		{"a ,b", ", ", []string{"a ,b"}}, {"a,, b,  c", ", ", []string{"a,", "b", " c"}}, {"a, b, ", ", ", []string{"a", "b", ""}},
		{"aaaaa", "aa", []string{"", "", "a"}}, {"a b", "", []string{"a b"}}, {"", "", []string{""}},
	} {
		if parts := Split(c.s, c.between); !reflect.DeepEqual(parts, c.want) {
			t.Errorf("Split(%q, %q) = %q, want %q", c.s, c.between, parts, c.want)
		}
	}
}

func TestLines(t *testing.T) {
	for _, c := range []struct {
		s     string
		want  []string
		ended bool
	}{
		{"", []string{}, true}, {"a", []string{}, false}, {"\n", []string{""}, true}, {"a\n", []string{"a"}, true}, {"a\nb", []string{"a"}, false},
		{"a\n\nb \n", []string{"a", "", "b "}, true}, {"a\r\n ", []string{"a\r"}, false}, {"a/b\n", []string{"a/b"}, true},
	} {
		lines, ended := Lines(c.s)
		if !reflect.DeepEqual(lines, c.want) || ended != c.ended {
			t.Errorf("Lines(%q) = %q, %v, want %q, %v", c.s, lines, ended, c.want, c.ended)
		}
	}
}
