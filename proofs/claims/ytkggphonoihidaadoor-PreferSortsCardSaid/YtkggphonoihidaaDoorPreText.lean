/-
  prefer.Text and Hops, and the document's.
-/
import Derived.Test.YtkggphonoihidaaDoorPreTxt
import Derived.Test.YtkggphonoihidaaDoorPreOpen
namespace Go.Proofs.YtkggphonoihidaaDoor
open Go.RowKit
namespace Pre
open Oct Dec

def sl : ByteArray := ⟨#[47]⟩
def numT (n : Nat) : ByteArray := ⟨(Lib.decDigits n).toArray⟩
/-- A vector's text. -/
def txtV (x : Vc) : ByteArray := numT x.r ++ sl ++ numT x.c ++ sl ++ numT x.b ++ sl ++ numT (max x.p 0).toNat

theorem num_size (n : Nat) (h : n < 18446744073709551616) : (numT n).size ≤ 20 := by
  have := Lib.nDigits_le20 n h
  show (Lib.decDigits n).toArray.size ≤ 20
  rw [List.size_toArray, Lib.decDigits_length]
  exact this

set_option maxRecDepth 20000 in
set_option maxHeartbeats 4000000 in
theorem text_any (x : Vc) (hx : wfV x) (w : World) (hH : Home w) :
    Calls Tryd.prog 9 #[vv x] w fun e w' => e = .returned (.string (txtV x)) ∧ Below w.heap.size w w' := by
  obtain ⟨h1, h2, h3, h4, h5⟩ := hx
  obtain ⟨m, hm⟩ : ∃ m : Nat, m = (max x.p 0).toNat := ⟨_, rfl⟩
  have hm1 : max x.p (0 : Int) = (m : Int) := by omega
  have hm2 : m < 9223372036854775808 := by omega
  have hm3 : IntKind.u64.wrap (m : Int) = m := by rw [IntKind.wrap_u64]; omega
  have H1 : Hid (∀ W, Hid (Below w.heap.size w W) → Calls Tryd.prog 21 #[.int .u64 x.r] W fun e w' => e = .returned (.string (numT x.r)) ∧ Below W.heap.size W w' ∧ Hid (Below w.heap.size w w')) := Lib.hid fun W hb => (digits_any x.r h1 W (hH.below hb.out)).mono (by rintro e w' ⟨rfl, hn⟩; exact ⟨rfl, hn, Bx.then_below hb.out hn⟩)
  have H2 : Hid (∀ W, Hid (Below w.heap.size w W) → Calls Tryd.prog 21 #[.int .u64 x.c] W fun e w' => e = .returned (.string (numT x.c)) ∧ Below W.heap.size W w' ∧ Hid (Below w.heap.size w w')) := Lib.hid fun W hb => (digits_any x.c h2 W (hH.below hb.out)).mono (by rintro e w' ⟨rfl, hn⟩; exact ⟨rfl, hn, Bx.then_below hb.out hn⟩)
  have H3 : Hid (∀ W, Hid (Below w.heap.size w W) → Calls Tryd.prog 21 #[.int .u64 x.b] W fun e w' => e = .returned (.string (numT x.b)) ∧ Below W.heap.size W w' ∧ Hid (Below w.heap.size w w')) := Lib.hid fun W hb => (digits_any x.b h3 W (hH.below hb.out)).mono (by rintro e w' ⟨rfl, hn⟩; exact ⟨rfl, hn, Bx.then_below hb.out hn⟩)
  have H4 : Hid (∀ W, Hid (Below w.heap.size w W) → Calls Tryd.prog 22 #[.int .i64 m] W fun e w' => e = .returned (.string (numT m)) ∧ Below W.heap.size W w' ∧ Hid (Below w.heap.size w w')) := Lib.hid fun W hb => (itoa_any m (by omega) (by omega) W (hH.below hb.out)).mono (by rintro e w' ⟨rfl, hn⟩; exact ⟨by rw [Lib.itoa_nonneg]; rfl, hn, Bx.then_below hb.out hn⟩)
  have s1 := num_size x.r h1
  have s2 := num_size x.c h2
  have s3 := num_size x.b h3
  have s4 := num_size m (by omega)
  have HX : Hid (txtV x = numT x.r ++ sl ++ numT x.c ++ sl ++ numT x.b ++ sl ++ numT m) := Lib.hid (by rw [hm]; rfl)
  generalize txtV x = X at *
  generalize numT x.r = t1 at *
  generalize numT x.c = t2 at *
  generalize numT x.b = t3 at *
  generalize numT m = t4 at *
  have HB0 : Hid (Below w.heap.size w (w.alloc (vo x))) := Lib.hid (Bx.box_below w (vo x))
  obtain ⟨x1, x2, x3, x4⟩ := x
  simp only at hm1 H1 H2 H3
  have X0 := (Bx.Blk.new w (enc ⟨x1, x2, x3, x4⟩) 30).all4
  obtain ⟨c0, c1, c2, c3⟩ := X0
  clear h1 h2 h3 h4 h5 hm hH
  have hc1 : ¬ (t1.size + 1 > 9223372036854775807) := by omega
  have hc2 : ¬ (t1.size + 1 + t2.size > 9223372036854775807) := by omega
  have hc3 : ¬ (t1.size + 1 + t2.size + 1 > 9223372036854775807) := by omega
  have hc4 : ¬ (t1.size + 1 + t2.size + 1 + t3.size > 9223372036854775807) := by omega
  have hc5 : ¬ (t1.size + 1 + t2.size + 1 + t3.size + 1 > 9223372036854775807) := by omega
  have hc6 : ¬ (t1.size + 1 + t2.size + 1 + t3.size + 1 + t4.size > 9223372036854775807) := by omega
  go_enter Tryd.func9, Tryd.ntmps9
  go_wp2_with fail
  have HB : Hid (Below w.heap.size w (w.alloc (vo ⟨x1, x2, x3, x4⟩)).drew) := Lib.hid HB0.out.drew
  go_region_held3 (fun w' => w'.cell? ⟨w.heap.size, 0, none⟩ = some (.int .u64 x1) ∧ w'.cell? ⟨w.heap.size, 1, none⟩ = some (.int .u64 x2) ∧ w'.cell? ⟨w.heap.size, 2, none⟩ = some (.int .u64 x3) ∧ w'.cell? ⟨w.heap.size, 3, none⟩ = some (.int .i64 x4))
    (first | go_keep | (go_split_ands; exact ⟨Bx.keep_cell (by assumption) (by assumption), Bx.keep_cell (by assumption) (by assumption), Bx.keep_cell (by assumption) (by assumption), Bx.keep_cell (by assumption) (by assumption)⟩))
    (first | (go_at_call 21; with_reducible first | (refine (H1.out _ HB).mono ?_; rintro e w1 ⟨rfl, hb1, hn⟩; replace HB := hn; clear hn; have hz1 := hb1; clear hb1) | (refine (H2.out _ HB).mono ?_; rintro e w2 ⟨rfl, hb2, hn⟩; replace HB := hn; clear hn; have hz2 := hb2; clear hb2) | (refine (H3.out _ HB).mono ?_; rintro e w3 ⟨rfl, hb3, hn⟩; replace HB := hn; clear hn; have hz3 := hb3; clear hb3)) | (go_at_call 22; with_reducible (refine (H4.out _ HB).mono ?_; rintro e w4 ⟨rfl, hb4, hn⟩; replace HB := hn; clear hn; have hz4 := hb4; clear hb4)))
  all_goals go_wp2_with fail
  all_goals go_ret
  all_goals exact ⟨by rw [HX.out]; rfl, HB.out⟩

set_option maxRecDepth 20000 in
set_option maxHeartbeats 4000000 in
theorem rtext_any (x : Vc) (hx : wfV x) (w : World) :
    Calls Tryd.prog 10 #[vv x] w fun e w' => e = .returned (.string (txtV x)) ∧ Below w.heap.size w w' := by
  obtain ⟨h1, h2, h3, h4, h5⟩ := hx
  obtain ⟨m, hm⟩ : ∃ m : Nat, m = (max x.p 0).toNat := ⟨_, rfl⟩
  have hm1 : max (0 : Int) x.p = (m : Int) := by omega
  have hm2 : m < 9223372036854775808 := by omega
  have hm3 : IntKind.u64.wrap (m : Int) = m := by rw [IntKind.wrap_u64]; omega
  have H1 : Hid (∀ W, Hid (Below w.heap.size w W) → Calls Tryd.prog 23 #[.int .u64 x.r] W fun e w' => e = .returned (.string (numT x.r)) ∧ Below W.heap.size W w' ∧ Hid (Below w.heap.size w w')) := Lib.hid fun W hb => (rdigits_nat (x.r + 1) x.r (Nat.lt_succ_self _) h1 W).mono (by rintro e w' ⟨rfl, hn⟩; exact ⟨rfl, hn, Bx.then_below hb.out hn⟩)
  have H2 : Hid (∀ W, Hid (Below w.heap.size w W) → Calls Tryd.prog 23 #[.int .u64 x.c] W fun e w' => e = .returned (.string (numT x.c)) ∧ Below W.heap.size W w' ∧ Hid (Below w.heap.size w w')) := Lib.hid fun W hb => (rdigits_nat (x.c + 1) x.c (Nat.lt_succ_self _) h2 W).mono (by rintro e w' ⟨rfl, hn⟩; exact ⟨rfl, hn, Bx.then_below hb.out hn⟩)
  have H3 : Hid (∀ W, Hid (Below w.heap.size w W) → Calls Tryd.prog 23 #[.int .u64 x.b] W fun e w' => e = .returned (.string (numT x.b)) ∧ Below W.heap.size W w' ∧ Hid (Below w.heap.size w w')) := Lib.hid fun W hb => (rdigits_nat (x.b + 1) x.b (Nat.lt_succ_self _) h3 W).mono (by rintro e w' ⟨rfl, hn⟩; exact ⟨rfl, hn, Bx.then_below hb.out hn⟩)
  have H4 : Hid (∀ W, Hid (Below w.heap.size w W) → Calls Tryd.prog 23 #[.int .u64 m] W fun e w' => e = .returned (.string (numT m)) ∧ Below W.heap.size W w' ∧ Hid (Below w.heap.size w w')) := Lib.hid fun W hb => (rdigits_nat (m + 1) m (Nat.lt_succ_self _) (by omega) W).mono (by rintro e w' ⟨rfl, hn⟩; exact ⟨rfl, hn, Bx.then_below hb.out hn⟩)
  have s1 := num_size x.r h1
  have s2 := num_size x.c h2
  have s3 := num_size x.b h3
  have s4 := num_size m (by omega)
  have HX : Hid (txtV x = numT x.r ++ sl ++ numT x.c ++ sl ++ numT x.b ++ sl ++ numT m) := Lib.hid (by rw [hm]; rfl)
  generalize txtV x = X at *
  generalize numT x.r = t1 at *
  generalize numT x.c = t2 at *
  generalize numT x.b = t3 at *
  generalize numT m = t4 at *
  have HB0 : Hid (Below w.heap.size w (w.alloc (vo x))) := Lib.hid (Bx.box_below w (vo x))
  obtain ⟨x1, x2, x3, x4⟩ := x
  simp only at hm1 H1 H2 H3
  have X0 := (Bx.Blk.new w (enc ⟨x1, x2, x3, x4⟩) 30).all4
  obtain ⟨c0, c1, c2, c3⟩ := X0
  clear h1 h2 h3 h4 h5 hm
  have hc1 : ¬ (t1.size + 1 > 9223372036854775807) := by omega
  have hc2 : ¬ (t1.size + 1 + t2.size > 9223372036854775807) := by omega
  have hc3 : ¬ (t1.size + 1 + t2.size + 1 > 9223372036854775807) := by omega
  have hc4 : ¬ (t1.size + 1 + t2.size + 1 + t3.size > 9223372036854775807) := by omega
  have hc5 : ¬ (t1.size + 1 + t2.size + 1 + t3.size + 1 > 9223372036854775807) := by omega
  have hc6 : ¬ (t1.size + 1 + t2.size + 1 + t3.size + 1 + t4.size > 9223372036854775807) := by omega
  go_enter Tryd.func10, Tryd.ntmps10
  go_wp2_with fail
  have HB : Hid (Below w.heap.size w (w.alloc (vo ⟨x1, x2, x3, x4⟩)).drew) := Lib.hid HB0.out.drew
  go_region_held3 (fun w' => w'.cell? ⟨w.heap.size, 0, none⟩ = some (.int .u64 x1) ∧ w'.cell? ⟨w.heap.size, 1, none⟩ = some (.int .u64 x2) ∧ w'.cell? ⟨w.heap.size, 2, none⟩ = some (.int .u64 x3) ∧ w'.cell? ⟨w.heap.size, 3, none⟩ = some (.int .i64 x4))
    (first | go_keep | (go_split_ands; exact ⟨Bx.keep_cell (by assumption) (by assumption), Bx.keep_cell (by assumption) (by assumption), Bx.keep_cell (by assumption) (by assumption), Bx.keep_cell (by assumption) (by assumption)⟩))
    (first | (go_at_call 23; with_reducible first | (refine (H1.out _ HB).mono ?_; rintro e w1 ⟨rfl, hb1, hn⟩; replace HB := hn; clear hn; have hz1 := hb1; clear hb1) | (refine (H2.out _ HB).mono ?_; rintro e w2 ⟨rfl, hb2, hn⟩; replace HB := hn; clear hn; have hz2 := hb2; clear hb2) | (refine (H3.out _ HB).mono ?_; rintro e w3 ⟨rfl, hb3, hn⟩; replace HB := hn; clear hn; have hz3 := hb3; clear hb3) | (refine (H4.out _ HB).mono ?_; rintro e w4 ⟨rfl, hb4, hn⟩; replace HB := hn; clear hn; have hz4 := hb4; clear hb4)))
  all_goals go_wp2_with fail
  all_goals go_ret
  all_goals exact ⟨by rw [HX.out]; rfl, HB.out⟩

/-- How far information goes yet. -/
def hopsT (x : Tm) : Int := if x.m < 1 ∨ x.m - 1 ≤ x.a then 0 else min x.m 255 - 1 - min (max x.a 0) 254

set_option maxRecDepth 20000 in
set_option maxHeartbeats 4000000 in
theorem hops_any (x : Tm) (hx : wfT x) (w : World) : Calls Tryd.prog 7 #[tmv x] w fun e w' => e = .returned (.int .i64 (hopsT x)) ∧ Below w.heap.size w w' := by
  obtain ⟨x1, x2, x3, x4⟩ := x
  obtain ⟨⟨h1, h2⟩, h3, h4⟩ := hx
  simp only at h1 h2 h3 h4
  have B0 := Lib.hid (Bx.box_below w (tmo ⟨x1, x2, x3, x4⟩))
  have HT : Hid (hopsT ⟨x1, x2, x3, x4⟩ = if x2 < 1 ∨ x2 - 1 ≤ x1 then 0 else min x2 255 - 1 - min (max x1 0) 254) := Lib.hid rfl
  rcases (show x2 < 1 ∨ (1 ≤ x2 ∧ x2 - 1 ≤ x1) ∨ (1 ≤ x2 ∧ x1 < x2 - 1) by omega) with h | ⟨h, g⟩ | ⟨h, g⟩
  · have d1 : decide (x2 < 1) = true := decide_eq_true h
    go_enter Tryd.func7, Tryd.ntmps7
    go_wp2
    go_ret
    exact ⟨by rw [HT.out, if_pos (.inl h)]; rfl, B0.out⟩
  · have q1 : ¬ x2 < 1 := by omega
    have d1 : decide (x2 < 1) = false := decide_eq_false q1
    have d2 : decide (x2 - 1 ≤ x1) = true := decide_eq_true g
    have q2 : IntKind.i64.wrap (x2 - 1) = x2 - 1 := by rw [IntKind.wrap_i64]; omega
    go_enter Tryd.func7, Tryd.ntmps7
    go_wp2
    go_ret
    exact ⟨by rw [HT.out, if_pos (.inr g)]; rfl, B0.out⟩
  · have q1 : ¬ x2 < 1 := by omega
    have q2 : IntKind.i64.wrap (x2 - 1) = x2 - 1 := by rw [IntKind.wrap_i64]; omega
    have q3 : ¬ x2 - 1 ≤ x1 := by omega
    have d1 : decide (x2 < 1) = false := decide_eq_false q1
    have d2 : decide (x2 - 1 ≤ x1) = false := decide_eq_false q3
    obtain ⟨a, ha⟩ : ∃ a, a = min x2 255 := ⟨_, rfl⟩
    obtain ⟨b, hb⟩ : ∃ b, b = min (max x1 0) 254 := ⟨_, rfl⟩
    have q4 : min x2 255 = a := ha.symm
    have q5 : min (max x1 0) 254 = b := by omega
    have q6 : IntKind.i64.wrap (a - 1) = a - 1 := by rw [IntKind.wrap_i64]; omega
    have q7 : IntKind.i64.wrap (a - 1 - b) = a - 1 - b := by rw [IntKind.wrap_i64]; omega
    have HE := Lib.hid (show hopsT ⟨x1, x2, x3, x4⟩ = a - 1 - b by rw [HT.out, if_neg (by omega), ha, hb])
    clear ha hb
    go_enter Tryd.func7, Tryd.ntmps7
    go_wp2
    go_ret
    exact ⟨by rw [HE.out]; rfl, B0.out⟩

set_option maxRecDepth 20000 in
set_option maxHeartbeats 4000000 in
theorem rhops_any (x : Tm) (hx : wfT x) (w : World) : Calls Tryd.prog 8 #[tmv x] w fun e w' => e = .returned (.int .i64 (hopsT x)) ∧ Below w.heap.size w w' := by
  obtain ⟨x1, x2, x3, x4⟩ := x
  obtain ⟨⟨h1, h2⟩, h3, h4⟩ := hx
  simp only at h1 h2 h3 h4
  have B0 := Lib.hid (Bx.box_below w (tmo ⟨x1, x2, x3, x4⟩))
  have HT : Hid (hopsT ⟨x1, x2, x3, x4⟩ = if x2 < 1 ∨ x2 - 1 ≤ x1 then 0 else min x2 255 - 1 - min (max x1 0) 254) := Lib.hid rfl
  rcases (show x2 < 1 ∨ (1 ≤ x2 ∧ x2 - 1 ≤ x1) ∨ (1 ≤ x2 ∧ x1 < x2 - 1) by omega) with h | ⟨h, g⟩ | ⟨h, g⟩
  · have d1 : decide (x2 < 1) = true := decide_eq_true h
    go_enter Tryd.func8, Tryd.ntmps8
    go_wp2
    go_ret
    exact ⟨by rw [HT.out, if_pos (.inl h)]; rfl, B0.out⟩
  · have q1 : ¬ x2 < 1 := by omega
    have d1 : decide (x2 < 1) = false := decide_eq_false q1
    have d2 : decide (x2 - 1 ≤ x1) = true := decide_eq_true g
    have q2 : IntKind.i64.wrap (x2 - 1) = x2 - 1 := by rw [IntKind.wrap_i64]; omega
    go_enter Tryd.func8, Tryd.ntmps8
    go_wp2
    go_ret
    exact ⟨by rw [HT.out, if_pos (.inr g)]; rfl, B0.out⟩
  · have q1 : ¬ x2 < 1 := by omega
    have q2 : IntKind.i64.wrap (x2 - 1) = x2 - 1 := by rw [IntKind.wrap_i64]; omega
    have q3 : ¬ x2 - 1 ≤ x1 := by omega
    have d1 : decide (x2 < 1) = false := decide_eq_false q1
    have d2 : decide (x2 - 1 ≤ x1) = false := decide_eq_false q3
    obtain ⟨a, ha⟩ : ∃ a, a = min x2 255 := ⟨_, rfl⟩
    obtain ⟨b, hb⟩ : ∃ b, b = min (max x1 0) 254 := ⟨_, rfl⟩
    have q4 : min x2 255 = a := ha.symm
    have q5 : max 0 (min x1 254) = b := by omega
    have q6 : IntKind.i64.wrap (a - 1) = a - 1 := by rw [IntKind.wrap_i64]; omega
    have q7 : IntKind.i64.wrap (a - 1 - b) = a - 1 - b := by rw [IntKind.wrap_i64]; omega
    have HE := Lib.hid (show hopsT ⟨x1, x2, x3, x4⟩ = a - 1 - b by rw [HT.out, if_neg (by omega), ha, hb])
    clear ha hb
    go_enter Tryd.func8, Tryd.ntmps8
    go_wp2
    go_ret
    exact ⟨by rw [HE.out]; rfl, B0.out⟩

end Pre
end Go.Proofs.YtkggphonoihidaaDoor
