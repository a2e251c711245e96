// Package rules reads texts of rules, writes them in one way, and makes codes of them (P8 to P10).
package rules

import (
	"errors"
	"slices"
	"strings"

	"firewall/api"
)

const policyWord = "policy"

// verdictWords stand at the numbers of their verdicts.
func verdictWords() []string { return []string{"drop", "accept", "reject"} }

// book is what a text says.
type book struct {
	hasPolicy bool
	policy    api.Verdict
	rules     []rule
}

// rule has each condition at its name's place among the names, so that what was told in any order stands in one; nil: it was not told.
type rule struct {
	verdict    api.Verdict
	conditions [nameCount]condition
}

// read takes a text apart; its error is a *api.RuleError.
func read(text string) (book, error) {
	if len(text) > api.MaxText {
		return book{}, &api.RuleError{Line: 0, Kind: api.ErrLong}
	}
	var b book
	for at, line := range strings.Split(text, "\n") {
		pieces := piecesOf(line)
		if len(pieces) == 0 {
			continue
		}
		if err := inLine(at+1, b.take(pieces)); err != nil {
			return book{}, err
		}
	}
	if !b.hasPolicy {
		return book{}, &api.RuleError{Line: 0, Kind: api.ErrSyntax}
	}
	return b, nil
}

// piecesOf parts by spaces alone: a tab is a piece's byte like any other.
func piecesOf(line string) []string {
	var pieces []string
	for _, piece := range strings.Split(line, " ") {
		if piece != "" {
			pieces = append(pieces, piece)
		}
	}
	return pieces
}

// inLine tells the line beside the kind that err has within it; nil stays nil.
func inLine(line int, err error) error {
	var kind api.Kind
	if !errors.As(err, &kind) {
		return nil
	}
	return &api.RuleError{Line: line, Kind: kind}
}

func (b *book) take(pieces []string) error {
	if !b.hasPolicy {
		return b.takePolicy(pieces)
	}
	return b.takeRule(pieces)
}

func (b *book) takePolicy(pieces []string) error {
	if len(pieces) != 2 || pieces[0] != policyWord {
		return api.ErrSyntax
	}
	verdict, err := readVerdict(pieces[1])
	if err != nil {
		return err
	}
	b.hasPolicy, b.policy = true, verdict
	return nil
}

func (b *book) takeRule(pieces []string) error {
	verdict, err := readVerdict(pieces[0])
	if err != nil {
		return err
	}
	if len(b.rules) == api.MaxRules {
		return api.ErrMany
	}
	r := rule{verdict: verdict}
	for rest := pieces[1:]; len(rest) > 0; rest = rest[2:] {
		if err := r.take(rest); err != nil {
			return err
		}
	}
	if r.lacksProto() {
		return api.ErrMissing
	}
	b.rules = append(b.rules, r)
	return nil
}

func readVerdict(piece string) (api.Verdict, error) {
	place := slices.Index(verdictWords(), piece)
	if place < 0 {
		return api.Drop, api.ErrSyntax
	}
	return api.Verdict(place), nil
}

// take takes the condition that the first two pieces are; without an error there were two.
func (r *rule) take(pieces []string) error {
	place := slices.Index(names(), pieces[0])
	if place < 0 || len(pieces) < 2 {
		return api.ErrSyntax
	}
	if r.conditions[place] != nil {
		return api.ErrTwice
	}
	c, err := readCondition(pieces[0], pieces[1])
	if err != nil {
		return err
	}
	r.conditions[place] = c
	return nil
}

// lacksProto tells whether a condition asks for what only frames of a protocol have that the rule does not name.
func (r rule) lacksProto() bool {
	proto := r.proto()
	for _, c := range r.conditions {
		switch c.(type) {
		case sportIn, dportIn:
			if proto != api.TCP && proto != api.UDP {
				return true
			}
		case flagsAre:
			if proto != api.TCP {
				return true
			}
		}
	}
	return false
}

// proto is 0, which no word names, where the rule tells none.
func (r rule) proto() uint8 {
	for _, c := range r.conditions {
		if p, ok := c.(protoIs); ok {
			return p.number
		}
	}
	return 0
}
