/-
  Packed in one text: TabG, TabH.
-/
import Derived.Test.YtmojegnflcokjaaDoorTabF
import Derived.Laws.StructEq
import Derived.Shelf.SlicesQ.Load
import Derived.Shelf.SlicesE.Equal
/-
  cmp.Compare and cmp.Or at this program's types; table.ahead, and the place behind all that stand ahead (table.behind).
-/
namespace Go.Proofs.YtmojegnflcokjaaDoor
open Go.RowKit
namespace Tab
open Oct

def cmpZ (x y : Int) : Int := if x < y then -1 else if y < x then 1 else 0
def orZ (a b : Int) : Int := if a ≠ 0 then a else b

theorem cmp_ahd (x y : En) : decide (orZ (cmpZ x.v y.v) (cmpZ x.m y.m) < 0) = ahd x y := by
  unfold ahd orZ cmpZ
  rw [decide_eq_decide]
  repeat' split
  all_goals omega

set_option maxRecDepth 20000 in
theorem nan_int (x : Int) (w : World) : Calls Tryd.prog 89 #[.int .i64 x] w fun e w' => e = .returned (.bool false) ∧ w = w' := by
  go_enter Tryd.func89, Tryd.ntmps89
  go_wp2
  go_ret
  exact ⟨ret_bool (by simp), rfl⟩

set_option maxRecDepth 20000 in
theorem nan_mac (x : Int) (w : World) : Calls Tryd.prog 90 #[.int .u64 x] w fun e w' => e = .returned (.bool false) ∧ w = w' := by
  go_enter Tryd.func90, Tryd.ntmps90
  go_wp2
  go_ret
  exact ⟨ret_bool (by simp), rfl⟩

set_option maxRecDepth 20000 in
set_option maxHeartbeats 1000000 in
theorem cmp_int (x y : Int) (w : World) : Calls Tryd.prog 84 #[.int .i64 x, .int .i64 y] w fun e w' => e = .returned (.int .i64 (cmpZ x y)) ∧ w = w' := by
  have HX := Lib.hid (nan_int x)
  have HY := Lib.hid (nan_int y)
  rcases (show x < y ∨ (¬ x < y ∧ y < x) ∨ (¬ x < y ∧ ¬ y < x) by omega) with h1 | ⟨h1, h2⟩ | ⟨h1, h2⟩
  · have e : cmpZ x y = -1 := by unfold cmpZ; rw [if_pos h1]
    rw [e]
    go_enter Tryd.func84, Tryd.ntmps84
    go_wp2_with fail
    refine (HX.out _).mono ?_; rintro e w' ⟨rfl, rfl⟩
    go_wp2_with fail
    refine (HY.out _).mono ?_; rintro e w' ⟨rfl, rfl⟩
    go_wp2
    go_ret
    exact ⟨rfl, rfl⟩
  · have e : cmpZ x y = 1 := by unfold cmpZ; rw [if_neg h1, if_pos h2]
    rw [e]
    go_enter Tryd.func84, Tryd.ntmps84
    go_wp2_with fail
    refine (HX.out _).mono ?_; rintro e w' ⟨rfl, rfl⟩
    go_wp2_with fail
    refine (HY.out _).mono ?_; rintro e w' ⟨rfl, rfl⟩
    go_wp2
    go_ret
    exact ⟨rfl, rfl⟩
  · have e : cmpZ x y = 0 := by unfold cmpZ; rw [if_neg h1, if_neg h2]
    rw [e]
    go_enter Tryd.func84, Tryd.ntmps84
    go_wp2_with fail
    refine (HX.out _).mono ?_; rintro e w' ⟨rfl, rfl⟩
    go_wp2_with fail
    refine (HY.out _).mono ?_; rintro e w' ⟨rfl, rfl⟩
    go_wp2
    go_ret
    exact ⟨rfl, rfl⟩

set_option maxRecDepth 20000 in
set_option maxHeartbeats 1000000 in
theorem cmp_mac (x y : Int) (w : World) : Calls Tryd.prog 85 #[.int .u64 x, .int .u64 y] w fun e w' => e = .returned (.int .i64 (cmpZ x y)) ∧ w = w' := by
  have HX := Lib.hid (nan_mac x)
  have HY := Lib.hid (nan_mac y)
  rcases (show x < y ∨ (¬ x < y ∧ y < x) ∨ (¬ x < y ∧ ¬ y < x) by omega) with h1 | ⟨h1, h2⟩ | ⟨h1, h2⟩
  · have e : cmpZ x y = -1 := by unfold cmpZ; rw [if_pos h1]
    rw [e]
    go_enter Tryd.func85, Tryd.ntmps85
    go_wp2_with fail
    refine (HX.out _).mono ?_; rintro e w' ⟨rfl, rfl⟩
    go_wp2_with fail
    refine (HY.out _).mono ?_; rintro e w' ⟨rfl, rfl⟩
    go_wp2
    go_ret
    exact ⟨rfl, rfl⟩
  · have e : cmpZ x y = 1 := by unfold cmpZ; rw [if_neg h1, if_pos h2]
    rw [e]
    go_enter Tryd.func85, Tryd.ntmps85
    go_wp2_with fail
    refine (HX.out _).mono ?_; rintro e w' ⟨rfl, rfl⟩
    go_wp2_with fail
    refine (HY.out _).mono ?_; rintro e w' ⟨rfl, rfl⟩
    go_wp2
    go_ret
    exact ⟨rfl, rfl⟩
  · have e : cmpZ x y = 0 := by unfold cmpZ; rw [if_neg h1, if_neg h2]
    rw [e]
    go_enter Tryd.func85, Tryd.ntmps85
    go_wp2_with fail
    refine (HX.out _).mono ?_; rintro e w' ⟨rfl, rfl⟩
    go_wp2_with fail
    refine (HY.out _).mono ?_; rintro e w' ⟨rfl, rfl⟩
    go_wp2
    go_ret
    exact ⟨rfl, rfl⟩

set_option maxRecDepth 20000 in
set_option maxHeartbeats 1000000 in
theorem or_any (a b : Int) (k : Nat) (w : World) (h0 : w.cell? ⟨k, 0, none⟩ = some (.int .i64 a)) (h1 : w.cell? ⟨k, 1, none⟩ = some (.int .i64 b)) :
    Calls Tryd.prog 83 #[.slice (some ⟨k, 0, none⟩) 2 2] w fun e w' => e = .returned (.int .i64 (orZ a b)) ∧ w = w' := by
  rcases (show ¬ a = 0 ∨ (a = 0 ∧ ¬ b = 0) ∨ (a = 0 ∧ b = 0) by omega) with g | ⟨rfl, g⟩ | ⟨rfl, rfl⟩
  · have e : orZ a b = a := if_pos g
    rw [e]
    have gb : (a == 0) = false := by simp; omega
    go_enter Tryd.func83, Tryd.ntmps83
    go_wp2
    refine wp_loop_rounds 3 ?_
    rw [rounds_succ]; go_wp2
    go_ret
    exact ⟨rfl, rfl⟩
  · have e : orZ 0 b = b := if_neg (by omega)
    rw [e]
    have gb : (b == 0) = false := by simp; omega
    go_enter Tryd.func83, Tryd.ntmps83
    go_wp2
    refine wp_loop_rounds 3 ?_
    rw [rounds_succ]; go_wp2
    rw [rounds_succ]; go_wp2
    go_ret
    exact ⟨rfl, rfl⟩
  · go_enter Tryd.func83, Tryd.ntmps83
    go_wp2
    refine wp_loop_rounds 3 ?_
    rw [rounds_succ]; go_wp2
    rw [rounds_succ]; go_wp2
    rw [rounds_succ]; go_wp2
    go_ret
    exact ⟨rfl, rfl⟩

set_option maxRecDepth 20000 in
set_option maxHeartbeats 2000000 in
theorem ahead_any (x y : En) (w : World) : Calls Tryd.prog 60 #[ev x, ev y] w fun e w' => e = .returned (.bool (ahd x y)) ∧ Below w.heap.size w w' := by
  rw [← cmp_ahd]
  have bel := Lib.hid (Bx.bel_box (Bx.box_below w (eo x)) (eo y))
  have X := ((Bx.Blk.new w (enc x) 62).keep (Bx.box_below _ (eo y))).all4
  have Y := (Bx.Blk.new_at (W := w.alloc (eo x)) (k := w.heap.size + 1) (enc y) 62 (by simp)).all4
  have H1 := Lib.hid (cmp_int x.v y.v)
  have H2 := Lib.hid (cmp_mac x.m y.m)
  obtain ⟨x1, x2, x3, x4⟩ := x
  obtain ⟨y1, y2, y3, y4⟩ := y
  simp only at X Y H1 H2 ⊢
  obtain ⟨a0, a1, _, _⟩ := X
  obtain ⟨b0, b1, _, _⟩ := Y
  generalize cmpZ x1 y1 = p at *
  generalize cmpZ (x2 : Int) (y2 : Int) = q at *
  have C := (Bx.Blk.new_at (W := (w.alloc (eo ⟨x1, x2, x3, x4⟩)).alloc (eo ⟨y1, y2, y3, y4⟩)) (k := w.heap.size + 1 + 1) [.int .i64 p, .int .i64 q] 3 (by simp)).all2
  have H3 := Lib.hid (or_any p q (w.heap.size + 1 + 1) ((((w.alloc (eo ⟨x1, x2, x3, x4⟩)).alloc (eo ⟨y1, y2, y3, y4⟩)).alloc (.cells #[.int .i64 p, .int .i64 q] 3)).drew) C.1 C.2)
  have B3 := Lib.hid ((Bx.bel_box bel.out (.cells #[.int .i64 p, .int .i64 q] 3)).drew)
  clear C
  generalize orZ p q = r at *
  go_enter Tryd.func60, Tryd.ntmps60
  go_wp2
  go_region_held3 (fun w' => w'.cell? ⟨w.heap.size, 0, none⟩ = some (.int .i64 x1) ∧ w'.cell? ⟨w.heap.size, 1, none⟩ = some (.int .u64 x2) ∧ w'.cell? ⟨w.heap.size + 1, 0, none⟩ = some (.int .i64 y1) ∧ w'.cell? ⟨w.heap.size + 1, 1, none⟩ = some (.int .u64 y2))
    (first | (go_split_ands; exact ⟨Bx.kept_new (by assumption), Bx.kept_new (by assumption), Bx.kept_new (by assumption), Bx.kept_new (by assumption)⟩) | (go_keep; done))
    (first | (go_at_call 84; with_reducible refine (H1.out _).mono ?_; rintro e w1 ⟨rfl, rfl⟩) | (go_at_call 85; with_reducible refine (H2.out _).mono ?_; rintro e w1 ⟨rfl, rfl⟩) | (go_at_call 83; with_reducible refine (H3.out).mono ?_; rintro e w1 ⟨rfl, rfl⟩))
  go_wp2
  go_ret
  exact ⟨rfl, B3.out⟩

end Tab
end Go.Proofs.YtmojegnflcokjaaDoor

/-
  table.behind; slices.Equal and table.Same of any two tables.
-/
namespace Go.Proofs.YtmojegnflcokjaaDoor
open Go.RowKit Go.Lib
namespace Tab
open Oct

instance enEq : DecidableEq En := fun x y => decidable_of_iff (x.v = y.v ∧ x.m = y.m ∧ x.p = y.p ∧ x.a = y.a) (by
  obtain ⟨x1, x2, x3, x4⟩ := x
  obtain ⟨y1, y2, y3, y4⟩ := y
  simp)

set_option maxRecDepth 20000 in
set_option maxHeartbeats 2000000 in
theorem behind_any (l : List En) (hl : l.length ≤ maxLen) (e : En) (A : Option Addr) (c : Nat) (w : World) (hA : Ents w A l) :
    Calls Tryd.prog 77 #[.slice A l.length c, ev e] w fun r w' => r = .returned (.int .i64 (behF 0 0 l e)) ∧ Below w.heap.size w w' := by
  obtain ⟨e1, e2, e3, e4⟩ := e
  have HA := Lib.hid (hA.below (Bx.box_below w (eo ⟨e1, e2, e3, e4⟩)))
  have HD := Lib.hid (fun x w => ahead_any x ⟨e1, e2, e3, e4⟩ w)
  have K := Lib.hid (Bx.Blk.new w [.int .i64 e1, .int .u64 e2, .int .i64 e3, .int .i64 e4] 62)
  have bel := Lib.hid (Bx.box_below w (eo ⟨e1, e2, e3, e4⟩))
  have HS := Lib.hid (fun (n k : Nat) (h : k < l.length) (hb : behF 0 0 l ⟨e1, e2, e3, e4⟩ = behF n k (l.drop k) ⟨e1, e2, e3, e4⟩) => show behF 0 0 l ⟨e1, e2, e3, e4⟩ = behF (if ahd l[k] ⟨e1, e2, e3, e4⟩ then k + 1 else n) (k + 1) (l.drop (k + 1)) ⟨e1, e2, e3, e4⟩ by rw [hb, List.drop_eq_getElem_cons h, behF])
  have HZ := Lib.hid (fun (n : Nat) (hb : behF 0 0 l ⟨e1, e2, e3, e4⟩ = behF n l.length (l.drop l.length) ⟨e1, e2, e3, e4⟩) => show behF 0 0 l ⟨e1, e2, e3, e4⟩ = n by rw [hb, List.drop_length, behF])
  have HR0 := Lib.hid (show behF 0 0 l ⟨e1, e2, e3, e4⟩ = behF 0 0 (l.drop 0) ⟨e1, e2, e3, e4⟩ from rfl)
  have hl' : l.length ≤ 9223372036854775807 := hl
  have hbl := Lib.hid (beh_le ⟨e1, e2, e3, e4⟩ l 0 0 (Nat.le_refl _))
  clear hA
  generalize behF 0 0 l ⟨e1, e2, e3, e4⟩ = r at *
  go_enter Tryd.func77, Tryd.ntmps77
  go_wp2
  generalize w.alloc (eo ⟨e1, e2, e3, e4⟩) = W0 at *
  go_loopw [5, 6, 7, 10] (fun v _ _ ix wr => ∃ k n : Nat, k ≤ l.length ∧ n ≤ k ∧ ix = .int .i64 k ∧ v = .int .i64 n ∧ Aside (r = behF n k (l.drop k) ⟨e1, e2, e3, e4⟩) ∧ Aside (Below W0.heap.size W0 wr)) (fun _ _ _ ix _ => l.length - (RowKit.intOf ix).toNat)
  case atStart => exact ⟨0, 0, Nat.zero_le _, Nat.le_refl _, rfl, rfl, HR0.out, Below.refl _ _⟩
  case round =>
    obtain ⟨k, n, hk, hn, rfl, rfl, HE, HB⟩ := hrel
    by_cases hlt : k < l.length
    · obtain ⟨b, o, rfl, _, c0, c1, c2, c3⟩ := (HA.out.below HB.out).at hlt
      have HN := Lib.hid (HS.out n k hlt HE.out)
      have HD' := Lib.hid (HD.out l[k])
      obtain ⟨d0, d1, d2, d3⟩ := ((K.out.keep HB.out).keep (Bx.box_below wr (eo l[k]))).all4
      generalize l[k] = x at *
      obtain ⟨x1, x2, x3, x4⟩ := x
      simp only at c0 c1 c2 c3 d0 d1 d2 d3 HN HD'
      have BX := Lib.hid (Bx.bel_box HB.out (eo ⟨x1, x2, x3, x4⟩))
      cases hx : ahd ⟨x1, x2, x3, x4⟩ ⟨e1, e2, e3, e4⟩ with
      | true =>
        rw [hx] at HN HD'
        clear hx
        go_wp2_with fail
        refine (HD'.out _).mono ?_; rintro e w1 ⟨rfl, hb1⟩
        have B2 := Lib.hid (Bx.then_below BX.out hb1)
        clear hb1
        go_wp2_with fail
        go_roundw
        case rel => exact ⟨k + 1, k + 1, by omega, Nat.le_refl _, by go_num, by go_num, HN.out, B2.out⟩
        case measure => simp [RowKit.intOf]; omega
      | false =>
        rw [hx] at HN HD'
        clear hx
        go_wp2_with fail
        refine (HD'.out _).mono ?_; rintro e w1 ⟨rfl, hb1⟩
        have B2 := Lib.hid (Bx.then_below BX.out hb1)
        clear hb1
        go_wp2_with fail
        go_roundw
        case rel => exact ⟨k + 1, n, by omega, by omega, by go_num, rfl, HN.out, B2.out⟩
        case measure => simp [RowKit.intOf]; omega
    · obtain rfl : k = l.length := by omega
      obtain rfl := HZ.out n HE.out
      have B2 := Lib.hid (Bx.then_below bel.out HB.out)
      go_wp2
      go_ret
      exact ⟨rfl, B2.out⟩

theorem neq_at (x y : En) (w : World) : (binOp .neq 62 (.agg (enc x).toArray) (.agg (enc y).toArray)).run Tryd.prog w = .ok (.bool (!decide (x = y))) w := by
  have u3 := Tryd.underlying3
  have u9 := Tryd.underlying30
  have hS : Tryd.prog.underlying 62 = some (.struct (Tryd.prog.fieldsOf 62)) := by kernel_rfl
  have hp : Tryd.prog.stoodInHeld 62 = false := by kernel_rfl
  obtain ⟨x1, x2, x3, x4⟩ := x
  obtain ⟨y1, y2, y3, y4⟩ := y
  simp only [enc]
  rw [run_neq_struct, show (10000 : Nat) = 9999 + 1 from rfl, run_equalIn_agg w 9999 62 _ _ hS hp]
  simp only [Program.fieldsOf, Tryd.underlying62]
  go_simp
  by_cases h1 : x1 = y1 <;> by_cases h2 : x2 = y2 <;> by_cases h3 : x3 = y3 <;> by_cases h4 : x4 = y4 <;> first | (simp [h1, h2, h3, h4]; done) | (simp [h1, h2, h3, h4]; omega)

theorem guard_at (op : BinOp) (a b : Operand) (x y : En) (w : World) : Sem.run Tryd.prog (eqGuard op 62 a b (.agg (enc x).toArray) (.agg (enc y).toArray)) w = .ok () w :=
  run_eqGuard_agg w op 62 a b (enc x).toArray (enc y).toArray (by kernel_rfl)

set_option maxHeartbeats 2000000 in
set_option maxRecDepth 100000 in
theorem equal_any (l m : List En) (hl : l.length ≤ maxLen) (hm : m.length ≤ maxLen) (A B : Option Addr) (c d : Nat) (w : World) (hA : Ents w A l) (hB : Ents w B m) :
    Calls Tryd.prog 61 #[.slice A l.length c, .slice B m.length d] w fun e w' => e = .returned (.bool (decide (l = m))) ∧ ∃ q, w' = w.drewN q := by
  have hl' : l.length ≤ 9223372036854775807 := hl
  have hm' : m.length ≤ 9223372036854775807 := hm
  by_cases hlen : l.length = m.length
  · have HA := Lib.hid hA
    have HB := Lib.hid hB
    clear hA hB
    generalize hn : l.length = n at *
    generalize hn2 : m.length = n2 at *
    subst hlen
    go_enter Tryd.func61, Tryd.ntmps61
    go_wp2
    go_loopg [13] n (fun g s13 wr => ∃ kk q : Nat, kk ≤ n ∧ n - kk ≤ g ∧ s13 = .int .i64 kk ∧ wr = w.drewN q ∧ Aside (∀ j, j < kk → l[j]? = m[j]?))
    case atStart => exact ⟨0, 0, Nat.zero_le _, by omega, rfl, rfl, fun j hj => absurd hj (Nat.not_lt_zero _)⟩
    case round =>
      obtain ⟨kk, q, hkk, hg, rfl, rfl, HE⟩ := hrel
      by_cases hlt : kk < n
      · obtain ⟨b1, o1, rfl, _, a0, a1, a2, a3⟩ := HA.out.at (k := kk) (by omega)
        obtain ⟨b2, o2, rfl, _, c0, c1, c2, c3⟩ := HB.out.at (k := kk) (by omega)
        have HX := Lib.hid (show l[kk]? = some l[kk] from List.getElem?_eq_getElem (by omega))
        have HY := Lib.hid (show m[kk]? = some m[kk] from List.getElem?_eq_getElem (by omega))
        generalize l[kk] = x at *
        generalize m[kk] = y at *
        obtain ⟨x1, x2, x3, x4⟩ := x
        obtain ⟨y1, y2, y3, y4⟩ := y
        have hne : ∀ w, (binOp .neq 62 (.agg #[.int .i64 x1, .int .u64 x2, .int .i64 x3, .int .i64 x4]) (.agg #[.int .i64 y1, .int .u64 y2, .int .i64 y3, .int .i64 y4])).run Tryd.prog w = .ok (.bool (!decide ((⟨x1, x2, x3, x4⟩ : En) = ⟨y1, y2, y3, y4⟩))) w := fun w => neq_at ⟨x1, x2, x3, x4⟩ ⟨y1, y2, y3, y4⟩ w
        have hgd : ∀ (op : BinOp) (a b : Operand) (w : World), Sem.run Tryd.prog (eqGuard op 62 a b (.agg #[.int .i64 x1, .int .u64 x2, .int .i64 x3, .int .i64 x4]) (.agg #[.int .i64 y1, .int .u64 y2, .int .i64 y3, .int .i64 y4])) w = .ok () w := fun op a b w => guard_at op a b ⟨x1, x2, x3, x4⟩ ⟨y1, y2, y3, y4⟩ w
        change (w.drewN q).cell? _ = _ at a0 a1 a2 a3 c0 c1 c2 c3
        generalize hwq : w.drewN q = wq at a0 a1 a2 a3 c0 c1 c2 c3 ⊢
        simp only at a0 a1 a2 a3 c0 c1 c2 c3
        by_cases hxy : (⟨x1, x2, x3, x4⟩ : En) = ⟨y1, y2, y3, y4⟩
        · rw [decide_eq_true hxy] at hne
          go_wp2
          go_quiet (fail)
          go_wp2
          go_roundg (n - (kk + 1))
          case measure => omega
          case rel =>
            refine ⟨kk + 1, q + nq, by omega, by omega, by go_num, by rw [← hwq, World.drewN_drewN], (show Aside _ from fun j hj => ?_)⟩
            by_cases e : j = kk
            · subst e
              rw [HX.out, HY.out, hxy]
            · exact HE.out j (by omega)
        · rw [decide_eq_false hxy] at hne
          go_wp2
          go_quiet (fail)
          go_wp2
          go_ret
          have hlm : ¬ l = m := fun h => hxy (by have := HX.out; rw [h, HY.out] at this; exact (Option.some.inj this).symm)
          exact ⟨ret_bool (decide_eq_false hlm).symm, q + nq, by rw [← hwq, World.drewN_drewN]⟩
      · go_wp2
        go_ret
        have hlm : l = m := List.ext_getElem? (fun j => by
          by_cases h : j < kk
          · exact HE.out j h
          · rw [List.getElem?_eq_none (by omega), List.getElem?_eq_none (by omega)])
        exact ⟨ret_bool (decide_eq_true hlm).symm, q, rfl⟩
  · have hlen' : ¬ (l.length : Int) = (m.length : Int) := by omega
    have hlm : ¬ l = m := fun h => hlen (by rw [h])
    go_enter Tryd.func61, Tryd.ntmps61
    go_wp2
    go_ret
    exact ⟨ret_bool (decide_eq_false hlm).symm, 0, rfl⟩

theorem drew_below (w : World) (q : Nat) : Below w.heap.size w (w.drewN q) := by
  induction q with
  | zero => exact Below.refl _ _
  | succ n ih => exact ih.drew

set_option maxRecDepth 20000 in
set_option maxHeartbeats 2000000 in
theorem same_any (most long most' long' : Int) (l m : List En) (hl : l.length ≤ maxLen) (hm : m.length ≤ maxLen) (A B : Option Addr) (c d : Nat) (w : World) (hA : Ents w A l) (hB : Ents w B m) :
    Calls Tryd.prog 24 #[tv most long A l.length c, tv most' long' B m.length d] w fun e w' => e = .returned (.bool (decide (most = most' ∧ long = long' ∧ l = m))) ∧ Below w.heap.size w w' := by
  have HL := Lib.hid (fun w hA hB => equal_any l m hl hm A B c d w hA hB)
  have bel := Lib.hid (Bx.bel_box (Bx.box_below w (to most long A l.length c)) (to most' long' B m.length d))
  have A1 := Lib.hid (hA.below bel.out)
  have B1 := Lib.hid (hB.below bel.out)
  clear hA hB
  by_cases h1 : most = most'
  · subst h1
    by_cases h2 : long = long'
    · subst h2
      have hr : decide (most = most ∧ long = long ∧ l = m) = decide (l = m) := by simp
      rw [hr]
      clear hr
      generalize decide (l = m) = r at *
      go_enter Tryd.func24, Tryd.ntmps24
      go_wp2_with fail
      refine (HL.out _ A1.out B1.out).mono ?_; rintro e w1 ⟨rfl, q, rfl⟩
      have BE := Lib.hid (Bx.then_below bel.out (drew_below _ q))
      go_wp2
      go_ret
      exact ⟨rfl, BE.out⟩
    · have hr : decide (most = most ∧ long = long' ∧ l = m) = false := decide_eq_false (fun h => h2 h.2.1)
      rw [hr]
      clear hr HL
      go_enter Tryd.func24, Tryd.ntmps24
      go_wp2_with fail
      go_ret
      exact ⟨rfl, bel.out⟩
  · have hr : decide (most = most' ∧ long = long' ∧ l = m) = false := decide_eq_false (fun h => h1 h.1)
    rw [hr]
    clear hr HL
    go_enter Tryd.func24, Tryd.ntmps24
    go_wp2_with fail
    go_ret
    exact ⟨rfl, bel.out⟩

end Tab
end Go.Proofs.YtmojegnflcokjaaDoor
