/-
  table.behind; slices.Equal and table.Same of any two tables.
-/
import Derived.Test.YtfnjgjehmddkcaaDoorTabG
import Derived.Laws.StructEq
import Derived.Shelf.SlicesQ.Load
import Derived.Shelf.SlicesE.Equal
namespace Go.Proofs.YtfnjgjehmddkcaaDoor
open Go.RowKit Go.Lib
namespace Tab
open Oct

instance enEq : DecidableEq En := fun x y => decidable_of_iff (x.v = y.v ∧ x.m = y.m ∧ x.p = y.p ∧ x.a = y.a) (by
  obtain ⟨x1, x2, x3, x4⟩ := x
  obtain ⟨y1, y2, y3, y4⟩ := y
  simp)

set_option maxRecDepth 20000 in
set_option maxHeartbeats 2000000 in
theorem behind_any (l : List En) (hl : l.length ≤ maxLen) (e : En) (A : Option Addr) (c : Nat) (w : World) (hA : Ents w A l) :
    Calls Tryd.prog 40 #[.slice A l.length c, ev e] w fun r w' => r = .returned (.int .i64 (behF 0 0 l e)) ∧ Below w.heap.size w w' := by
  obtain ⟨e1, e2, e3, e4⟩ := e
  have HA := Lib.hid (hA.below (Bx.box_below w (eo ⟨e1, e2, e3, e4⟩)))
  have HD := Lib.hid (fun x w => ahead_any x ⟨e1, e2, e3, e4⟩ w)
  have K := Lib.hid (Bx.Blk.new w [.int .i64 e1, .int .u64 e2, .int .i64 e3, .int .i64 e4] 29)
  have bel := Lib.hid (Bx.box_below w (eo ⟨e1, e2, e3, e4⟩))
  have HS := Lib.hid (fun (n k : Nat) (h : k < l.length) (hb : behF 0 0 l ⟨e1, e2, e3, e4⟩ = behF n k (l.drop k) ⟨e1, e2, e3, e4⟩) => show behF 0 0 l ⟨e1, e2, e3, e4⟩ = behF (if ahd l[k] ⟨e1, e2, e3, e4⟩ then k + 1 else n) (k + 1) (l.drop (k + 1)) ⟨e1, e2, e3, e4⟩ by rw [hb, List.drop_eq_getElem_cons h, behF])
  have HZ := Lib.hid (fun (n : Nat) (hb : behF 0 0 l ⟨e1, e2, e3, e4⟩ = behF n l.length (l.drop l.length) ⟨e1, e2, e3, e4⟩) => show behF 0 0 l ⟨e1, e2, e3, e4⟩ = n by rw [hb, List.drop_length, behF])
  have HR0 := Lib.hid (show behF 0 0 l ⟨e1, e2, e3, e4⟩ = behF 0 0 (l.drop 0) ⟨e1, e2, e3, e4⟩ from rfl)
  have hl' : l.length ≤ 9223372036854775807 := hl
  have hbl := Lib.hid (beh_le ⟨e1, e2, e3, e4⟩ l 0 0 (Nat.le_refl _))
  clear hA
  generalize behF 0 0 l ⟨e1, e2, e3, e4⟩ = r at *
  go_enter Tryd.func40, Tryd.ntmps40
  go_wp2
  generalize w.alloc (eo ⟨e1, e2, e3, e4⟩) = W0 at *
  go_loopw [5, 6, 7, 10] (fun v _ _ ix wr => ∃ k n : Nat, k ≤ l.length ∧ n ≤ k ∧ ix = .int .i64 k ∧ v = .int .i64 n ∧ Aside (r = behF n k (l.drop k) ⟨e1, e2, e3, e4⟩) ∧ Aside (Below W0.heap.size W0 wr)) (fun _ _ _ ix _ => l.length - (RowKit.intOf ix).toNat)
  case atStart => exact ⟨0, 0, Nat.zero_le _, Nat.le_refl _, rfl, rfl, HR0.out, Below.refl _ _⟩
  case round =>
    obtain ⟨k, n, hk, hn, rfl, rfl, HE, HB⟩ := hrel
    by_cases hlt : k < l.length
    · obtain ⟨b, o, rfl, _, c0, c1, c2, c3⟩ := (HA.out.below HB.out).at hlt
      have HN := Lib.hid (HS.out n k hlt HE.out)
      have HD' := Lib.hid (HD.out l[k])
      obtain ⟨d0, d1, d2, d3⟩ := ((K.out.keep HB.out).keep (Bx.box_below wr (eo l[k]))).all4
      generalize l[k] = x at *
      obtain ⟨x1, x2, x3, x4⟩ := x
      simp only at c0 c1 c2 c3 d0 d1 d2 d3 HN HD'
      have BX := Lib.hid (Bx.bel_box HB.out (eo ⟨x1, x2, x3, x4⟩))
      cases hx : ahd ⟨x1, x2, x3, x4⟩ ⟨e1, e2, e3, e4⟩ with
      | true =>
        rw [hx] at HN HD'
        clear hx
        go_wp2_with fail
        refine (HD'.out _).mono ?_; rintro e w1 ⟨rfl, hb1⟩
        have B2 := Lib.hid (Bx.then_below BX.out hb1)
        clear hb1
        go_wp2_with fail
        go_roundw
        case rel => exact ⟨k + 1, k + 1, by omega, Nat.le_refl _, by go_num, by go_num, HN.out, B2.out⟩
        case measure => simp [RowKit.intOf]; omega
      | false =>
        rw [hx] at HN HD'
        clear hx
        go_wp2_with fail
        refine (HD'.out _).mono ?_; rintro e w1 ⟨rfl, hb1⟩
        have B2 := Lib.hid (Bx.then_below BX.out hb1)
        clear hb1
        go_wp2_with fail
        go_roundw
        case rel => exact ⟨k + 1, n, by omega, by omega, by go_num, rfl, HN.out, B2.out⟩
        case measure => simp [RowKit.intOf]; omega
    · obtain rfl : k = l.length := by omega
      obtain rfl := HZ.out n HE.out
      have B2 := Lib.hid (Bx.then_below bel.out HB.out)
      go_wp2
      go_ret
      exact ⟨rfl, B2.out⟩

theorem neq_at (x y : En) (w : World) : (binOp .neq 29 (.agg (enc x).toArray) (.agg (enc y).toArray)).run Tryd.prog w = .ok (.bool (!decide (x = y))) w := by
  have u3 := Tryd.underlying3
  have u9 := Tryd.underlying27
  have hS : Tryd.prog.underlying 29 = some (.struct (Tryd.prog.fieldsOf 29)) := by kernel_rfl
  have hp : Tryd.prog.stoodInHeld 29 = false := by kernel_rfl
  obtain ⟨x1, x2, x3, x4⟩ := x
  obtain ⟨y1, y2, y3, y4⟩ := y
  simp only [enc]
  rw [run_neq_struct, show (10000 : Nat) = 9999 + 1 from rfl, run_equalIn_agg w 9999 29 _ _ hS hp]
  simp only [Program.fieldsOf, Tryd.underlying29]
  go_simp
  by_cases h1 : x1 = y1 <;> by_cases h2 : x2 = y2 <;> by_cases h3 : x3 = y3 <;> by_cases h4 : x4 = y4 <;> first | (simp [h1, h2, h3, h4]; done) | (simp [h1, h2, h3, h4]; omega)

theorem guard_at (op : BinOp) (a b : Operand) (x y : En) (w : World) : Sem.run Tryd.prog (eqGuard op 29 a b (.agg (enc x).toArray) (.agg (enc y).toArray)) w = .ok () w :=
  run_eqGuard_agg w op 29 a b (enc x).toArray (enc y).toArray (by kernel_rfl)

set_option maxHeartbeats 2000000 in
set_option maxRecDepth 100000 in
theorem equal_any (l m : List En) (hl : l.length ≤ maxLen) (hm : m.length ≤ maxLen) (A B : Option Addr) (c d : Nat) (w : World) (hA : Ents w A l) (hB : Ents w B m) :
    Calls Tryd.prog 46 #[.slice A l.length c, .slice B m.length d] w fun e w' => e = .returned (.bool (decide (l = m))) ∧ ∃ q, w' = w.drewN q := by
  have hl' : l.length ≤ 9223372036854775807 := hl
  have hm' : m.length ≤ 9223372036854775807 := hm
  by_cases hlen : l.length = m.length
  · have HA := Lib.hid hA
    have HB := Lib.hid hB
    clear hA hB
    generalize hn : l.length = n at *
    generalize hn2 : m.length = n2 at *
    subst hlen
    go_enter Tryd.func46, Tryd.ntmps46
    go_wp2
    go_loopg [13] n (fun g s13 wr => ∃ kk q : Nat, kk ≤ n ∧ n - kk ≤ g ∧ s13 = .int .i64 kk ∧ wr = w.drewN q ∧ Aside (∀ j, j < kk → l[j]? = m[j]?))
    case atStart => exact ⟨0, 0, Nat.zero_le _, by omega, rfl, rfl, fun j hj => absurd hj (Nat.not_lt_zero _)⟩
    case round =>
      obtain ⟨kk, q, hkk, hg, rfl, rfl, HE⟩ := hrel
      by_cases hlt : kk < n
      · obtain ⟨b1, o1, rfl, _, a0, a1, a2, a3⟩ := HA.out.at (k := kk) (by omega)
        obtain ⟨b2, o2, rfl, _, c0, c1, c2, c3⟩ := HB.out.at (k := kk) (by omega)
        have HX := Lib.hid (show l[kk]? = some l[kk] from List.getElem?_eq_getElem (by omega))
        have HY := Lib.hid (show m[kk]? = some m[kk] from List.getElem?_eq_getElem (by omega))
        generalize l[kk] = x at *
        generalize m[kk] = y at *
        obtain ⟨x1, x2, x3, x4⟩ := x
        obtain ⟨y1, y2, y3, y4⟩ := y
        have hne : ∀ w, (binOp .neq 29 (.agg #[.int .i64 x1, .int .u64 x2, .int .i64 x3, .int .i64 x4]) (.agg #[.int .i64 y1, .int .u64 y2, .int .i64 y3, .int .i64 y4])).run Tryd.prog w = .ok (.bool (!decide ((⟨x1, x2, x3, x4⟩ : En) = ⟨y1, y2, y3, y4⟩))) w := fun w => neq_at ⟨x1, x2, x3, x4⟩ ⟨y1, y2, y3, y4⟩ w
        have hgd : ∀ (op : BinOp) (a b : Operand) (w : World), Sem.run Tryd.prog (eqGuard op 29 a b (.agg #[.int .i64 x1, .int .u64 x2, .int .i64 x3, .int .i64 x4]) (.agg #[.int .i64 y1, .int .u64 y2, .int .i64 y3, .int .i64 y4])) w = .ok () w := fun op a b w => guard_at op a b ⟨x1, x2, x3, x4⟩ ⟨y1, y2, y3, y4⟩ w
        change (w.drewN q).cell? _ = _ at a0 a1 a2 a3 c0 c1 c2 c3
        generalize hwq : w.drewN q = wq at a0 a1 a2 a3 c0 c1 c2 c3 ⊢
        simp only at a0 a1 a2 a3 c0 c1 c2 c3
        by_cases hxy : (⟨x1, x2, x3, x4⟩ : En) = ⟨y1, y2, y3, y4⟩
        · rw [decide_eq_true hxy] at hne
          go_wp2
          go_quiet (fail)
          go_wp2
          go_roundg (n - (kk + 1))
          case measure => omega
          case rel =>
            refine ⟨kk + 1, q + nq, by omega, by omega, by go_num, by rw [← hwq, World.drewN_drewN], (show Aside _ from fun j hj => ?_)⟩
            by_cases e : j = kk
            · subst e
              rw [HX.out, HY.out, hxy]
            · exact HE.out j (by omega)
        · rw [decide_eq_false hxy] at hne
          go_wp2
          go_quiet (fail)
          go_wp2
          go_ret
          have hlm : ¬ l = m := fun h => hxy (by have := HX.out; rw [h, HY.out] at this; exact (Option.some.inj this).symm)
          exact ⟨ret_bool (decide_eq_false hlm).symm, q + nq, by rw [← hwq, World.drewN_drewN]⟩
      · go_wp2
        go_ret
        have hlm : l = m := List.ext_getElem? (fun j => by
          by_cases h : j < kk
          · exact HE.out j h
          · rw [List.getElem?_eq_none (by omega), List.getElem?_eq_none (by omega)])
        exact ⟨ret_bool (decide_eq_true hlm).symm, q, rfl⟩
  · have hlen' : ¬ (l.length : Int) = (m.length : Int) := by omega
    have hlm : ¬ l = m := fun h => hlen (by rw [h])
    go_enter Tryd.func46, Tryd.ntmps46
    go_wp2
    go_ret
    exact ⟨ret_bool (decide_eq_false hlm).symm, 0, rfl⟩

theorem drew_below (w : World) (q : Nat) : Below w.heap.size w (w.drewN q) := by
  induction q with
  | zero => exact Below.refl _ _
  | succ n ih => exact ih.drew

set_option maxRecDepth 20000 in
set_option maxHeartbeats 2000000 in
theorem same_any (most long most' long' : Int) (l m : List En) (hl : l.length ≤ maxLen) (hm : m.length ≤ maxLen) (A B : Option Addr) (c d : Nat) (w : World) (hA : Ents w A l) (hB : Ents w B m) :
    Calls Tryd.prog 21 #[tv most long A l.length c, tv most' long' B m.length d] w fun e w' => e = .returned (.bool (decide (most = most' ∧ long = long' ∧ l = m))) ∧ Below w.heap.size w w' := by
  have HL := Lib.hid (fun w hA hB => equal_any l m hl hm A B c d w hA hB)
  have bel := Lib.hid (Bx.bel_box (Bx.box_below w (to most long A l.length c)) (to most' long' B m.length d))
  have A1 := Lib.hid (hA.below bel.out)
  have B1 := Lib.hid (hB.below bel.out)
  clear hA hB
  by_cases h1 : most = most'
  · subst h1
    by_cases h2 : long = long'
    · subst h2
      have hr : decide (most = most ∧ long = long ∧ l = m) = decide (l = m) := by simp
      rw [hr]
      clear hr
      generalize decide (l = m) = r at *
      go_enter Tryd.func21, Tryd.ntmps21
      go_wp2_with fail
      refine (HL.out _ A1.out B1.out).mono ?_; rintro e w1 ⟨rfl, q, rfl⟩
      have BE := Lib.hid (Bx.then_below bel.out (drew_below _ q))
      go_wp2
      go_ret
      exact ⟨rfl, BE.out⟩
    · have hr : decide (most = most ∧ long = long' ∧ l = m) = false := decide_eq_false (fun h => h2 h.2.1)
      rw [hr]
      clear hr HL
      go_enter Tryd.func21, Tryd.ntmps21
      go_wp2_with fail
      go_ret
      exact ⟨rfl, bel.out⟩
  · have hr : decide (most = most' ∧ long = long' ∧ l = m) = false := decide_eq_false (fun h => h1 h.1)
    rw [hr]
    clear hr HL
    go_enter Tryd.func21, Tryd.ntmps21
    go_wp2_with fail
    go_ret
    exact ⟨rfl, bel.out⟩

end Tab
end Go.Proofs.YtfnjgjehmddkcaaDoor
