package rules

import "strings"

// Print writes a text of rules in one way (P9).
func Print(text string) (string, error) {
	b, err := read(text)
	if err != nil {
		return "", err
	}
	var out strings.Builder
	out.WriteString(policyWord + " " + verdictWords()[b.policy] + "\n")
	for _, r := range b.rules {
		out.WriteString(r.line() + "\n")
	}
	return out.String(), nil
}

func (r rule) line() string {
	pieces := []string{verdictWords()[r.verdict]}
	for place, name := range names() {
		if c := r.conditions[place]; c != nil {
			pieces = append(pieces, name, c.value())
		}
	}
	return strings.Join(pieces, " ")
}
