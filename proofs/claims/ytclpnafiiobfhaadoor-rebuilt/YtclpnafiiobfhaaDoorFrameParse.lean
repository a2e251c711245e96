import Derived.Test.YtclpnafiiobfhaaDoorFrameMath
namespace Go.Proofs.YtclpnafiiobfhaaDoor
open Go.RowKit
set_option linter.unusedVariables false
set_option linter.unusedSimpArgs false

/-- what the class of such a frame asks of what stands behind the head -/
theorem cls_fine (a b p t c : Int) (r : List Int) (hB : Byt (hd34 a b p t (65535 - fold c) ++ r)) (hp : 0 ≤ p ∧ p ≤ 255) (ha : 0 ≤ a ∧ a ≤ 4294967295) (hb : 0 ≤ b ∧ b ≤ 4294967295) (ht : 20 ≤ t ∧ t ≤ 2000)
    (hc : c = 34048 + p + t + (a / 65536 + a % 65536) + (b / 65536 + b % 65536)) (hlen : t ≤ 20 + (r.length : Int)) (hin : inn (ofL (hd34 a b p t (65535 - fold c) ++ r)) t = false) :
    cls (ofL (hd34 a b p t (65535 - fold c) ++ r)) = 0 := by
  have hs : (ofL (hd34 a b p t (65535 - fold c) ++ r)).size = 34 + r.length := by rw [ofL_size]; simp [hd34]; omega
  have n12 : numv (ofL (hd34 a b p t (65535 - fold c) ++ r)) 12 2 = 2048 := by rw [num2L _ hB]; rfl
  have n14 : nth (ofL (hd34 a b p t (65535 - fold c) ++ r)) 14 = 69 := by rw [ofL_nth _ hB]; rfl
  have n16 : numv (ofL (hd34 a b p t (65535 - fold c) ++ r)) 16 2 = t := by
    rw [num2L _ hB]
    show 256 * (t / 256) + t % 256 = t
    omega
  have n20 : numv (ofL (hd34 a b p t (65535 - fold c) ++ r)) 20 2 = 0 := by rw [num2L _ hB]; rfl
  have nf : fold (sumTo (ofL (hd34 a b p t (65535 - fold c) ++ r)) 10) = 65535 := by
    rw [hd_sum a b p t _ r hB, show 34048 + p + t + (65535 - fold c) + (a / 65536 + a % 65536) + (b / 65536 + b % 65536) = c + (65535 - fold c) from by omega]
    exact fold_fix c (by omega) (by omega)
  unfold cls
  rw [hs, n12, n14, n16, n20, nf, hin, if_neg (by omega), if_neg (by simp), if_neg (by omega), if_neg (by simp), if_neg (by simp), if_neg (by omega), if_neg (by simp), if_neg (by simp), if_neg (by simp)]

theorem n26 (a b p t v : Int) (r : List Int) (hB : Byt (hd34 a b p t v ++ r)) (ha : 0 ≤ a ∧ a ≤ 4294967295) : numv (ofL (hd34 a b p t v ++ r)) 26 4 = a := by
  rw [numv_4, num2L _ hB, num2L _ hB]
  show 65536 * (256 * (a / 65536 / 256) + a / 65536 % 256) + (256 * (a % 65536 / 256) + a % 65536 % 256) = a
  omega
theorem n30 (a b p t v : Int) (r : List Int) (hB : Byt (hd34 a b p t v ++ r)) (hb : 0 ≤ b ∧ b ≤ 4294967295) : numv (ofL (hd34 a b p t v ++ r)) 30 4 = b := by
  rw [numv_4, num2L _ hB, num2L _ hB]
  show 65536 * (256 * (b / 65536 / 256) + b / 65536 % 256) + (256 * (b % 65536 / 256) + b % 65536 % 256) = b
  omega
theorem n23 (a b p t v : Int) (r : List Int) (hB : Byt (hd34 a b p t v ++ r)) : nth (ofL (hd34 a b p t v ++ r)) 23 = p := by rw [ofL_nth _ hB]; rfl

theorem parse_tcp (a b t c sp dp f : Int) (q : List Int) (hB : Byt (hd34 a b 6 t (65535 - fold c) ++ (inT sp dp f ++ q))) (ha : 0 ≤ a ∧ a ≤ 4294967295) (hb : 0 ≤ b ∧ b ≤ 4294967295) (hsp : 0 ≤ sp ∧ sp ≤ 65535) (hdp : 0 ≤ dp ∧ dp ≤ 65535) (hf : 0 ≤ f ∧ f ≤ 63) (ht : 40 ≤ t ∧ t ≤ 2000)
    (hc : c = 34048 + 6 + t + (a / 65536 + a % 65536) + (b / 65536 + b % 65536)) (hlen : t ≤ 40 + (q.length : Int)) :
    parsedAs (ofL (hd34 a b 6 t (65535 - fold c) ++ (inT sp dp f ++ q))) = .tuple #[.agg #[.int .u32 a, .int .u32 b, .int .u8 6, .int .u16 sp, .int .u16 dp, .int .u8 f], .int .u8 0] := by
  have m23 := n23 a b 6 t _ _ hB
  have m46 : nth (ofL (hd34 a b 6 t (65535 - fold c) ++ (inT sp dp f ++ q))) 46 = 80 := by rw [ofL_nth _ hB]; rfl
  have m47 : nth (ofL (hd34 a b 6 t (65535 - fold c) ++ (inT sp dp f ++ q))) 47 = f := by rw [ofL_nth _ hB]; rfl
  have m34 : numv (ofL (hd34 a b 6 t (65535 - fold c) ++ (inT sp dp f ++ q))) 34 2 = sp := by
    rw [num2L _ hB]; show 256 * (sp / 256) + sp % 256 = sp; omega
  have m36 : numv (ofL (hd34 a b 6 t (65535 - fold c) ++ (inT sp dp f ++ q))) 36 2 = dp := by
    rw [num2L _ hB]; show 256 * (dp / 256) + dp % 256 = dp; omega
  have hcl := cls_fine a b 6 t c _ hB (by omega) ha hb (by omega) hc (by simp [inT]; omega) (by simp [inn, m23, m46]; omega)
  have m26 := n26 a b 6 t _ _ hB ha
  have m30 := n30 a b 6 t _ _ hB hb
  unfold parsedAs hdr
  rw [hcl]
  simp only [if_true, m23, m26, m30, m34, m36, m47]
  simp
  omega
theorem parse_udp (a b t c sp dp n : Int) (q : List Int) (hB : Byt (hd34 a b 17 t (65535 - fold c) ++ (inU sp dp n ++ q))) (ha : 0 ≤ a ∧ a ≤ 4294967295) (hb : 0 ≤ b ∧ b ≤ 4294967295) (hsp : 0 ≤ sp ∧ sp ≤ 65535) (hdp : 0 ≤ dp ∧ dp ≤ 65535) (ht : t ≤ 2000) (hn : 8 ≤ n) (hnt : n = t - 20)
    (hc : c = 34048 + 17 + t + (a / 65536 + a % 65536) + (b / 65536 + b % 65536)) (hlen : t ≤ 28 + (q.length : Int)) :
    parsedAs (ofL (hd34 a b 17 t (65535 - fold c) ++ (inU sp dp n ++ q))) = .tuple #[.agg #[.int .u32 a, .int .u32 b, .int .u8 17, .int .u16 sp, .int .u16 dp, .int .u8 0], .int .u8 0] := by
  have m23 := n23 a b 17 t _ _ hB
  have m38 : numv (ofL (hd34 a b 17 t (65535 - fold c) ++ (inU sp dp n ++ q))) 38 2 = n := by
    rw [num2L _ hB]; show 256 * (n / 256) + n % 256 = n; omega
  have m34 : numv (ofL (hd34 a b 17 t (65535 - fold c) ++ (inU sp dp n ++ q))) 34 2 = sp := by
    rw [num2L _ hB]; show 256 * (sp / 256) + sp % 256 = sp; omega
  have m36 : numv (ofL (hd34 a b 17 t (65535 - fold c) ++ (inU sp dp n ++ q))) 36 2 = dp := by
    rw [num2L _ hB]; show 256 * (dp / 256) + dp % 256 = dp; omega
  have hcl := cls_fine a b 17 t c _ hB (by omega) ha hb (by omega) hc (by simp [inU]; omega) (by simp [inn, m23, m38]; omega)
  have m26 := n26 a b 17 t _ _ hB ha
  have m30 := n30 a b 17 t _ _ hB hb
  unfold parsedAs hdr
  rw [hcl]
  simp only [if_true, m23, m26, m30, m34, m36]
  simp
theorem parse_icmp (a b t c sp : Int) (q : List Int) (hB : Byt (hd34 a b 1 t (65535 - fold c) ++ (inI sp 8 ++ q))) (ha : 0 ≤ a ∧ a ≤ 4294967295) (hb : 0 ≤ b ∧ b ≤ 4294967295) (hsp : 0 ≤ sp ∧ sp ≤ 65535) (ht : 28 ≤ t ∧ t ≤ 2000)
    (hc : c = 34048 + 1 + t + (a / 65536 + a % 65536) + (b / 65536 + b % 65536)) (hlen : t ≤ 28 + (q.length : Int)) :
    parsedAs (ofL (hd34 a b 1 t (65535 - fold c) ++ (inI sp 8 ++ q))) = .tuple #[.agg #[.int .u32 a, .int .u32 b, .int .u8 1, .int .u16 sp, .int .u16 sp, .int .u8 8], .int .u8 0] := by
  have m23 := n23 a b 1 t _ _ hB
  have m34 : nth (ofL (hd34 a b 1 t (65535 - fold c) ++ (inI sp 8 ++ q))) 34 = 8 := by rw [ofL_nth _ hB]; rfl
  have m38 : numv (ofL (hd34 a b 1 t (65535 - fold c) ++ (inI sp 8 ++ q))) 38 2 = sp := by
    rw [num2L _ hB]; show 256 * (sp / 256) + sp % 256 = sp; omega
  have hcl := cls_fine a b 1 t c _ hB (by omega) ha hb (by omega) hc (by simp [inI]; omega) (by simp [inn, m23]; omega)
  have m26 := n26 a b 1 t _ _ hB ha
  have m30 := n30 a b 1 t _ _ hB hb
  unfold parsedAs hdr
  rw [hcl]
  simp only [if_true, m23, m26, m30, m34, m38]
  simp
theorem parse_other (a b t c : Int) (q : List Int) (hB : Byt (hd34 a b 89 t (65535 - fold c) ++ q)) (ha : 0 ≤ a ∧ a ≤ 4294967295) (hb : 0 ≤ b ∧ b ≤ 4294967295) (ht : 20 ≤ t ∧ t ≤ 2000)
    (hc : c = 34048 + 89 + t + (a / 65536 + a % 65536) + (b / 65536 + b % 65536)) (hlen : t ≤ 20 + (q.length : Int)) :
    parsedAs (ofL (hd34 a b 89 t (65535 - fold c) ++ q)) = .tuple #[.agg #[.int .u32 a, .int .u32 b, .int .u8 89, .int .u16 0, .int .u16 0, .int .u8 0], .int .u8 0] := by
  have m23 := n23 a b 89 t _ _ hB
  have hcl := cls_fine a b 89 t c _ hB (by omega) ha hb (by omega) hc hlen (by simp [inn, m23])
  have m26 := n26 a b 89 t _ _ hB ha
  have m30 := n30 a b 89 t _ _ hB hb
  unfold parsedAs hdr
  rw [hcl]
  simp only [if_true, m23, m26, m30]
  simp
end Go.Proofs.YtclpnafiiobfhaaDoor
