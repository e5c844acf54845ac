/-
  Packed in one text: FwdB, RegX.
-/
import Derived.Test.YtmojegnflcokjaaDoorTabI
import Derived.Deep.RegionHeld3
/-
  What the document's own Find, Same and ahead answer of any table.
-/
namespace Go.Proofs.YtmojegnflcokjaaDoor
open Go.RowKit
namespace Tab
open Oct

set_option maxRecDepth 40000 in
theorem rahead_any (x y : En) (w : World) :
    Calls Tryd.prog 30 #[ev x, .int .i64 y.v, .int .u64 y.m] w fun r w' => r = .returned (.bool (ahd x y)) ∧ Below w.heap.size w w' := by
  obtain ⟨v, m, p, a⟩ := x
  obtain ⟨v', m', p', a'⟩ := y
  have bel := Lib.hid (Bx.box_below w (eo ⟨v, m, p, a⟩))
  have hm : ((m : Int) < (m' : Int)) ↔ m < m' := Int.ofNat_lt
  unfold ahd
  simp only
  rcases (show v < v' ∨ (¬ v < v' ∧ ¬ v = v') ∨ (v = v' ∧ m < m') ∨ (v = v' ∧ ¬ m < m') by omega) with h1 | ⟨h1, h2⟩ | ⟨h1, h2⟩ | ⟨h1, h2⟩
  · rw [decide_eq_true (Or.inl h1)]
    go_enter Tryd.func30, Tryd.ntmps30
    go_wp2
    go_ret
    exact ⟨rfl, bel.out⟩
  · rw [decide_eq_false (by omega)]
    have h3 : (v == v') = false := by simpa using h2
    go_enter Tryd.func30, Tryd.ntmps30
    go_wp2
    go_ret
    exact ⟨rfl, bel.out⟩
  · subst h1
    rw [decide_eq_true (Or.inr ⟨rfl, h2⟩)]
    go_enter Tryd.func30, Tryd.ntmps30
    go_wp2
    go_ret
    exact ⟨rfl, bel.out⟩
  · subst h1
    rw [decide_eq_false (by omega)]
    go_enter Tryd.func30, Tryd.ntmps30
    go_wp2
    go_ret
    exact ⟨rfl, bel.out⟩

set_option maxRecDepth 40000 in
set_option maxHeartbeats 4000000 in
theorem rfind_any (most long : Int) (l : List En) (hl : l.length ≤ maxLen) (v : Int) (m : Nat) (A : Option Addr) (c : Nat) (w : World) (hA : Ents w A l) :
    Calls Tryd.prog 47 #[tv most long A l.length c, .int .i64 v, .int .u64 m] w fun e w' => e = .returned (.tuple #[ev (gotE l v m), .bool (isE l v m)]) ∧ Below w.heap.size w w' := by
  have bel := Lib.hid (Bx.bel_box (Bx.box_below w (to most long A l.length c)) (eo ⟨0, 0, 0, 0⟩))
  have HA := Lib.hid (hA.below bel.out)
  have K := Lib.hid ((Fre.new w [.int .i64 most, .int .i64 long, .slice A l.length c] 24).keep (Bx.box_below _ (eo ⟨0, 0, 0, 0⟩)))
  have R : Hid (Fre ((w.alloc (to most long A l.length c)).alloc (eo ⟨0, 0, 0, 0⟩)) (w.heap.size + 1) [.int .i64 0, .int .u64 0, .int .i64 0, .int .i64 0]) := Lib.hid (by
    have := Fre.new (w.alloc (to most long A l.length c)) [.int .i64 0, .int .u64 0, .int .i64 0, .int .i64 0] 62
    rwa [show (w.alloc (to most long A l.length c)).heap.size = w.heap.size + 1 by simp] at this)
  have hl' : l.length ≤ 9223372036854775807 := hl
  have hle : w.heap.size ≤ w.heap.size + 1 := Nat.le_succ _
  have HP := Lib.hid (find_pos l v m)
  obtain ⟨⟨k0, k1, k2⟩, _⟩ := K.out.all3
  clear hA
  go_enter Tryd.func47, Tryd.ntmps47
  go_wp2
  clear k0 k1 k2
  generalize (w.alloc (to most long A l.length c)).alloc (eo ⟨0, 0, 0, 0⟩) = W0 at *
  go_loopw [9, 13] (fun _ ix wr => ∃ k : Nat, k ≤ l.length ∧ ix = .int .i64 k ∧ Aside (k ≤ posE l v m) ∧ Aside (Below W0.heap.size W0 wr)) (fun _ ix _ => l.length - (intOf ix).toNat)
  case atStart => exact ⟨0, Nat.zero_le _, rfl, Nat.zero_le _, Below.refl _ _⟩
  case round =>
    obtain ⟨k, hk, rfl, HQ, HB⟩ := hrel
    by_cases hlt : k < l.length
    · obtain ⟨b', o', rfl, _, c0, c1, c2, c3⟩ := (HA.out.below HB.out).at hlt
      have BX := Lib.hid (Bx.bel_box HB.out (eo l[k]))
      obtain ⟨d0, d1, d2, d3⟩ := (Bx.Blk.new wr (enc l[k]) 62).all4
      cases hx : isK v m l[k] with
      | true =>
        have e2 : findE l v m = some l[k] := by rw [HP.out, posE_hit hlt HQ.out hx, List.getElem?_eq_getElem hlt]
        have e3 : gotE l v m = l[k] := by unfold gotE; rw [e2]; rfl
        have e4 : isE l v m = true := by unfold isE; rw [e2]; rfl
        have HG := Lib.hid (And.intro e3 e4)
        have hkk := (isK_iff _ _ _).1 hx
        have R1 := Lib.hid ((R.out.keep HB.out).keep (Bx.box_below wr (eo l[k])))
        clear e2 e3 e4 hx
        generalize l[k] = x at *
        obtain ⟨x1, x2, x3, x4⟩ := x
        obtain ⟨rfl, rfl⟩ := hkk
        simp only at c0 c1 c2 c3 d0 d1 d2 d3
        obtain ⟨⟨r0, r1, r2, r3⟩, f0, f1, f2, f3⟩ := R1.out.all4
        have R2 := Lib.hid ((R1.out.1.put4 (x0 := .int .i64 v) (x1 := .int .u64 m) (x2 := .int .i64 x3) (x3 := .int .i64 x4)).all4)
        have bel3 := Lib.hid (((((Bx.then_below bel.out BX.out).setCell (p := ⟨w.heap.size + 1, 0, none⟩) hle (.int .i64 v)).setCell (p := ⟨w.heap.size + 1, 1, none⟩) hle (.int .u64 m)).setCell (p := ⟨w.heap.size + 1, 2, none⟩) hle (.int .i64 x3)).setCell (p := ⟨w.heap.size + 1, 3, none⟩) hle (.int .i64 x4))
        clear R1 R K
        go_wp2
        refine bodyPost_ret (v := .tuple #[ev ⟨v, m, x3, x4⟩, .bool true]) ?_ rfl ?_
        · obtain ⟨d0, d1, d2, d3⟩ := R2.out
          simp [results, Tryd.results47, d0, d1, d2, d3, go_sem]
        · exact ⟨by rw [HG.out.1, HG.out.2], bel3.out⟩
      | false =>
        have HQ2 := Lib.hid (posE_miss hlt HQ.out hx)
        have hkk : ¬ (v = l[k].v ∧ m = l[k].m) := by rw [← isK_iff, hx]; simp
        clear hx
        generalize l[k] = x at *
        obtain ⟨x1, x2, x3, x4⟩ := x
        simp only at c0 c1 c2 c3 d0 d1 d2 d3 hkk
        by_cases h1 : x1 = v
        · subst h1
          have h2 : ¬ x2 = m := fun h => hkk ⟨rfl, h.symm⟩
          have h3 : ((x2 : Int) == (m : Int)) = false := by simp; omega
          clear hkk
          go_wp2
          go_roundw
          case rel => exact ⟨k + 1, by omega, by go_num, HQ2.out, BX.out⟩
          case measure => simp [intOf]; omega
        · have h3 : (x1 == v) = false := by simpa using h1
          clear hkk
          go_wp2
          go_roundw
          case rel => exact ⟨k + 1, by omega, by go_num, HQ2.out, BX.out⟩
          case measure => simp [intOf]; omega
    · have e2 : findE l v m = none := by rw [HP.out, List.getElem?_eq_none (by have := HQ.out; omega)]
      have e3 : gotE l v m = ⟨0, 0, 0, 0⟩ := by unfold gotE; rw [e2]; rfl
      have e4 : isE l v m = false := by unfold isE; rw [e2]; rfl
      have HG := Lib.hid (And.intro e3 e4)
      have R1 := Lib.hid (R.out.keep HB.out)
      clear e2 e3 e4
      obtain ⟨⟨r0, r1, r2, r3⟩, f0, f1, f2, f3⟩ := R1.out.all4
      have R2 := Lib.hid ((R1.out.1.put4 (x0 := .int .i64 0) (x1 := .int .u64 0) (x2 := .int .i64 0) (x3 := .int .i64 0)).all4)
      have bel3 := Lib.hid (((((Bx.then_below bel.out HB.out).setCell (p := ⟨w.heap.size + 1, 0, none⟩) hle (.int .i64 0)).setCell (p := ⟨w.heap.size + 1, 1, none⟩) hle (.int .u64 0)).setCell (p := ⟨w.heap.size + 1, 2, none⟩) hle (.int .i64 0)).setCell (p := ⟨w.heap.size + 1, 3, none⟩) hle (.int .i64 0))
      clear R1 R K
      go_wp2
      refine bodyPost_ret (v := .tuple #[ev ⟨0, 0, 0, 0⟩, .bool false]) ?_ rfl ?_
      · obtain ⟨d0, d1, d2, d3⟩ := R2.out
        simp [results, Tryd.results47, d0, d1, d2, d3, go_sem]
      · exact ⟨by rw [HG.out.1, HG.out.2], bel3.out⟩

set_option maxRecDepth 40000 in
set_option maxHeartbeats 4000000 in
theorem rsame_any (most long most' long' : Int) (l m : List En) (hl : l.length ≤ maxLen) (hm : m.length ≤ maxLen) (A B : Option Addr) (c d : Nat) (w : World) (hA : Ents w A l) (hB : Ents w B m) :
    Calls Tryd.prog 11 #[tv most long A l.length c, tv most' long' B m.length d] w fun e w' => e = .returned (.bool (decide (most = most' ∧ long = long' ∧ l = m))) ∧ Below w.heap.size w w' := by
  have bel := Lib.hid (Bx.bel_box (Bx.box_below w (to most long A l.length c)) (to most' long' B m.length d))
  have K := Lib.hid ((Bx.Blk.new w [.int .i64 most, .int .i64 long, .slice A l.length c] 24).more (to most' long' B m.length d))
  have J := Lib.hid (Bx.Blk.new_at (W := w.alloc (to most long A l.length c)) (k := w.heap.size + 1) [.int .i64 most', .int .i64 long', .slice B m.length d] 24 (by simp))
  have hl' : l.length ≤ 9223372036854775807 := hl
  have hm' : m.length ≤ 9223372036854775807 := hm
  obtain ⟨k0, k1, k2⟩ := K.out.all3
  obtain ⟨j0, j1, j2⟩ := J.out.all3
  by_cases h1 : most = most'
  · subst h1
    by_cases h2 : long = long'
    · subst h2
      by_cases h3 : l.length = m.length
      · have hr : decide (most = most ∧ long = long ∧ l = m) = decide (l = m) := by simp
        rw [hr]
        clear hr
        have HA := Lib.hid (hA.below bel.out)
        have HB := Lib.hid (hB.below bel.out)
        have HX := Lib.hid (fun k (h : k < l.length) => show l[k]? = some (l[k]'h) from List.getElem?_eq_getElem h)
        have HY := Lib.hid (fun k (h : k < m.length) => show m[k]? = some (m[k]'h) from List.getElem?_eq_getElem h)
        have HAT := Lib.hid (fun (W : World) (hE : Ents W A l) k (h : k < l.length) => show ∃ x b o, l[k]? = some x ∧ A = some ⟨b, o, none⟩ ∧ b < W.heap.size ∧ W.cell? ⟨b, o + k * 4, none⟩ = some (.int .i64 x.v) ∧ W.cell? ⟨b, o + k * 4 + 1, none⟩ = some (.int .u64 x.m) ∧ W.cell? ⟨b, o + k * 4 + 2, none⟩ = some (.int .i64 x.p) ∧ W.cell? ⟨b, o + k * 4 + 3, none⟩ = some (.int .i64 x.a) from by
          obtain ⟨b, o, h1⟩ := hE.at h
          exact ⟨l[k], b, o, List.getElem?_eq_getElem h, h1⟩)
        have HBT := Lib.hid (fun (W : World) (hE : Ents W B m) k (h : k < m.length) => show ∃ x b o, m[k]? = some x ∧ B = some ⟨b, o, none⟩ ∧ b < W.heap.size ∧ W.cell? ⟨b, o + k * 4, none⟩ = some (.int .i64 x.v) ∧ W.cell? ⟨b, o + k * 4 + 1, none⟩ = some (.int .u64 x.m) ∧ W.cell? ⟨b, o + k * 4 + 2, none⟩ = some (.int .i64 x.p) ∧ W.cell? ⟨b, o + k * 4 + 3, none⟩ = some (.int .i64 x.a) from by
          obtain ⟨b, o, h1⟩ := hE.at h
          exact ⟨m[k], b, o, List.getElem?_eq_getElem h, h1⟩)
        have HEQ := Lib.hid (fun (h : ∀ j, j < l.length → l[j]? = m[j]?) => show l = m from List.ext_getElem? (fun j => by
          by_cases hj : j < l.length
          · exact h j hj
          · rw [List.getElem?_eq_none (by omega), List.getElem?_eq_none (by omega)]))
        obtain ⟨r, hr2⟩ : ∃ r, Hid (r = decide (l = m)) := ⟨_, rfl⟩
        rw [← hr2.out]
        clear hA hB HX HY
        generalize hn1 : l.length = n at *
        generalize hn2 : m.length = n2 at *
        subst h3
        go_enter Tryd.func11, Tryd.ntmps11
        go_wp2
        clear k0 k1 k2 j0 j1 j2
        generalize (w.alloc (to most long A n c)).alloc (to most long B n d) = W0 at *
        go_loopw [5, 30] (fun _ ix wr => ∃ k : Nat, k ≤ n ∧ ix = .int .i64 k ∧ Aside (∀ j, j < k → l[j]? = m[j]?) ∧ Aside (Below W0.heap.size W0 wr)) (fun _ ix _ => n - (RowKit.intOf ix).toNat)
        case atStart => exact ⟨0, Nat.zero_le _, rfl, fun j h => absurd h (Nat.not_lt_zero _), Below.refl _ _⟩
        case round =>
          obtain ⟨k, hk, rfl, HE, HQ⟩ := hrel
          by_cases hlt : k < n
          · obtain ⟨x, b1, o1, hX, rfl, _, a0, a1, a2, a3⟩ := HAT.out _ (HA.out.below HQ.out) k hlt
            obtain ⟨y, b2, o2, hY, rfl, _, c0, c1, c2, c3⟩ := HBT.out _ (HB.out.below HQ.out) k hlt
            obtain ⟨k0, k1, k2⟩ := (K.out.keep HQ.out).all3
            obtain ⟨j0, j1, j2⟩ := (J.out.keep HQ.out).all3
            replace hX := Lib.hid hX
            replace hY := Lib.hid hY
            obtain ⟨x1, x2, x3, x4⟩ := x
            obtain ⟨y1, y2, y3, y4⟩ := y
            simp only at a0 a1 a2 a3 c0 c1 c2 c3
            have hne : ∀ w, (binOp .neq 62 (.agg #[.int .i64 x1, .int .u64 x2, .int .i64 x3, .int .i64 x4]) (.agg #[.int .i64 y1, .int .u64 y2, .int .i64 y3, .int .i64 y4])).run Tryd.prog w = .ok (.bool (!decide ((⟨x1, x2, x3, x4⟩ : En) = ⟨y1, y2, y3, y4⟩))) w := fun w => neq_at ⟨x1, x2, x3, x4⟩ ⟨y1, y2, y3, y4⟩ w
            have hgd : ∀ (op : BinOp) (a b : Operand) (w : World), Sem.run Tryd.prog (eqGuard op 62 a b (.agg #[.int .i64 x1, .int .u64 x2, .int .i64 x3, .int .i64 x4]) (.agg #[.int .i64 y1, .int .u64 y2, .int .i64 y3, .int .i64 y4])) w = .ok () w := fun op a b w => guard_at op a b ⟨x1, x2, x3, x4⟩ ⟨y1, y2, y3, y4⟩ w
            by_cases hxy : (⟨x1, x2, x3, x4⟩ : En) = ⟨y1, y2, y3, y4⟩
            · rw [decide_eq_true hxy] at hne
              have HN := Lib.hid (show ∀ j, j < k + 1 → l[j]? = m[j]? from fun j hj => by
                by_cases e : j = k
                · subst e
                  rw [hX.out, hY.out, hxy]
                · exact HE.out j (by omega))
              go_wp2
              go_quiet (fail)
              have B2 := Lib.hid (Bx.then_below HQ.out (drew_below wr nq))
              go_wp2
              go_roundw
              case rel => exact ⟨k + 1, by omega, by go_num, HN.out, B2.out⟩
              case measure => simp [RowKit.intOf]; omega
            · rw [decide_eq_false hxy] at hne
              have hlm : ¬ l = m := fun h => hxy (by have := hX.out; rw [h, hY.out] at this; exact (Option.some.inj this).symm)
              have HR := Lib.hid (show r = false by rw [hr2.out]; exact decide_eq_false hlm)
              clear hlm
              go_wp2
              go_quiet (fail)
              have B2 := Lib.hid (Bx.then_below bel.out (Bx.then_below HQ.out (drew_below wr nq)))
              go_wp2
              go_ret
              exact ⟨by rw [HR.out]; rfl, B2.out⟩
          · obtain rfl : k = n := by omega
            have HR := Lib.hid (show r = true by rw [hr2.out]; exact decide_eq_true (HEQ.out HE.out))
            have B2 := Lib.hid (Bx.then_below bel.out HQ.out)
            go_wp2
            go_ret
            exact ⟨by rw [HR.out]; rfl, B2.out⟩
      · have hr : decide (most = most ∧ long = long ∧ l = m) = false := decide_eq_false (fun h => h3 (by rw [h.2.2]))
        rw [hr]
        have h4 : ((l.length : Int) == (m.length : Int)) = false := by simp; omega
        have h5 : ¬ ((l.length : Int) = (m.length : Int)) := by omega
        clear hr
        go_enter Tryd.func11, Tryd.ntmps11
        go_wp2
        go_ret
        exact ⟨rfl, bel.out⟩
    · have hr : decide (most = most ∧ long = long' ∧ l = m) = false := decide_eq_false (fun h => h2 h.2.1)
      rw [hr]
      have h4 : (long == long') = false := by simpa using h2
      clear hr
      go_enter Tryd.func11, Tryd.ntmps11
      go_wp2
      go_ret
      exact ⟨rfl, bel.out⟩
  · have hr : decide (most = most' ∧ long = long' ∧ l = m) = false := decide_eq_false (fun h => h1 h.1)
    rw [hr]
    have h4 : (most == most') = false := by simpa using h1
    clear hr
    go_enter Tryd.func11, Tryd.ntmps11
    go_wp2
    go_ret
    exact ⟨rfl, bel.out⟩

end Tab
end Go.Proofs.YtmojegnflcokjaaDoor

/-
  A region that draws its order and at last stores into what it has loaded (over any program): what a load yields may be taken first if it holds in every world that meets S, and S need not hold behind the last operation, which waits for all.
-/
namespace Go.Proofs.YtmojegnflcokjaaDoor
open Go
namespace Rx

section
variable {P : Program} {ops : Array Oper} {Q : Exit → Act → World → Prop} {md : Region.Mode} {S : World → Prop} {d : Nat}

/-- Whatever order is picked from here on, and S holds behind every operation but number d. -/
def wpAnyX (P : Program) (md : Region.Mode) (ops : Array Oper) (Q : Exit → Act → World → Prop) (S : World → Prop) (d : Nat) : Nat → Array Bool → Act → World → Prop
  | 0, listed, a, w => Region.ready md ops listed = [] ∧ Q .normal a w
  | fuel + 1, listed, a, w =>
    (Region.ready md ops listed = [] → Q .normal a w) ∧
    ∀ i ∈ Region.ready md ops listed, wpOp P ops Q i (fun a' w' => (i ≠ d → S w') ∧ wpAnyX P md ops Q S d fuel (listed.setIfInBounds i true) a' w') a w

theorem wpAny_of_x : ∀ (fuel : Nat) (listed : Array Bool) (a : Act) (w : World), wpAnyX P md ops Q S d fuel listed a w → wpAny P md ops Q fuel listed a w
  | 0, _, _, _, h => h
  | fuel + 1, _, _, _, h => ⟨h.1, fun i hi => wpOp_mono (fun a' w' h' => wpAny_of_x fuel _ a' w' h'.2) (h.2 i hi)⟩

/-- All of U wait for number i, or for one of U that does. -/
def waits (md : Region.Mode) (ops : Array Oper) (i : Nat) (U : List Nat) : Bool :=
  U.all fun u => u == i || match ops[u]? with
    | some o => o.after.any fun e => Region.binds md e && U.contains e.on
    | none => false

theorem waits_spec {i : Nat} {U : List Nat} (h : waits md ops i U = true) {u : Nat} (hu : u ∈ U) (hne : u ≠ i) : ∃ o, ops[u]? = some o ∧ ∃ e ∈ o.after, Region.binds md e = true ∧ e.on ∈ U := by
  have h1 := List.all_eq_true.1 h u hu
  rw [beq_eq_false_iff_ne.2 hne, Bool.false_or] at h1
  cases ho : ops[u]? with
  | none => rw [ho] at h1; cases h1
  | some o =>
    rw [ho] at h1
    obtain ⟨k, hk, he⟩ := Array.any_eq_true.1 h1
    rw [Bool.and_eq_true] at he
    exact ⟨o, rfl, o.after[k], Array.getElem_mem hk, he.1, by simpa using he.2⟩

theorem wpAnyX_first {i : Nat} {oi : Oper} {v : Value} {U : List Nat} (hi : ops[i]? = some oi) (hsel : ∀ (j : Nat) (o : Oper) cs b, ops[j]? = some o → o.op ≠ .select cs b)
    (hQ : ∀ c a w, Q (.panic c) (a.put oi.dst v) w → Q (.panic c) a w) (hU : waits md ops i U = true) (hiU : i ∈ U) (hdU : d ∈ U) (hdi : d ≠ i) :
    ∀ (fuel : Nat) (listed : Array Bool) (a : Act) (w : World),
      (∀ j oj, ops[j]? = some oj → j ≠ i → listed.getD j true = false → (∀ e ∈ oj.after, Region.binds md e = true → e.on ≠ i) → oi.apart ops oj = true) →
      i ∈ Region.ready md ops listed → (∀ u ∈ U, listed.getD u true = false) → YieldsIf P ops S oi v a → S w →
      wpAnyX P md ops Q S d fuel (listed.setIfInBounds i true) (a.put oi.dst v) w → wpAnyX P md ops Q S d (fuel + 1) listed a w := by
  intro fuel
  have hnotready : ∀ (listed : Array Bool) (j : Nat), (∀ u ∈ U, listed.getD u true = false) → j ∈ Region.ready md ops listed → j ≠ i → j ∉ U := by
    intro listed j hun hj hji hjU
    obtain ⟨o, ho, e, he, hb, heU⟩ := waits_spec hU hjU hji
    obtain ⟨_, o', ho', hall⟩ := mem_ready.1 hj
    rw [ho] at ho'
    cases ho'
    have h1 := hall e he hb
    have h0 := hun e.on heU
    rcases Nat.lt_or_ge e.on listed.size with h' | h'
    · simp [h'] at h0 h1
      rw [h0] at h1
      cases h1
    · simp [Array.getElem?_eq_none h'] at h1
  induction fuel with
  | zero =>
    intro listed a w _ hr hun hy hS H
    refine ⟨fun h => (by rw [h] at hr; cases hr), fun j hj => ?_⟩
    by_cases hji : j = i
    · subst hji; exact hy.wpOp hi hS ⟨fun _ => hS, H⟩
    · have := ready_mono hj hji
      rw [H.1] at this
      cases this
  | succ fuel ih =>
    intro listed a w hfree hr hun hy hS H
    refine ⟨fun h => (by rw [h] at hr; cases hr), fun j hj => ?_⟩
    by_cases hji : j = i
    · subst hji; exact hy.wpOp hi hS ⟨fun _ => hS, H⟩
    · have h1 := H.2 j (ready_mono hj hji)
      have hjU := hnotready listed j hun hj hji
      obtain ⟨hjun, oj, hoj, hall⟩ := mem_ready.1 hj
      have hnot : ∀ e ∈ oj.after, Region.binds md e = true → e.on ≠ i := fun e he hb heq => by
        have h1 := hall e he hb
        have h0 := (mem_ready.1 hr).1
        rw [heq] at h1
        rcases Nat.lt_or_ge i listed.size with h' | h'
        · simp [h'] at h0 h1; rw [h0] at h1; cases h1
        · simp [Array.getElem?_eq_none h'] at h1
      have h2 := wpOp_putIf hoj (hfree j oj hoj hji hjun hnot) (fun cs b => hsel i oi cs b hi) (fun cs b => hsel j oj cs b hoj) hQ hy h1
      have hfree' : ∀ k ok, ops[k]? = some ok → k ≠ i → (listed.setIfInBounds j true).getD k true = false →
          (∀ e ∈ ok.after, Region.binds md e = true → e.on ≠ i) → oi.apart ops ok = true := fun k ok hk hki hun hno => by
        refine hfree k ok hk hki ?_ hno
        by_cases hjk : j = k
        · subst hjk; exact hjun
        · rw [getD_set_ne true hjk] at hun; exact hun
      have hun' : ∀ u ∈ U, (listed.setIfInBounds j true).getD u true = false := fun u hu => by
        have hne : j ≠ u := fun e => hjU (by rw [e]; exact hu)
        rw [getD_set_ne true hne]
        exact hun u hu
      have hjd : j ≠ d := fun e => hjU (by rw [e]; exact hdU)
      refine wpOp_mono (fun a' w' h3 => ⟨fun _ => h3.2.1 hjd, ih (listed.setIfInBounds j true) a' w' hfree' (ready_mono hr (Ne.symm hji)) hun' h3.1 (h3.2.1 hjd) ?_⟩) h2
      rw [Array.setIfInBounds_comm _ _ hji]
      exact h3.2.2

/-- Take number i first: d, and all of U, wait for it. -/
theorem wpAnyX_take {i : Nat} {oi : Oper} {v : Value} {U : List Nat} {fuel : Nat} {listed : Array Bool} {a : Act} {w : World} (hi : ops[i]? = some oi)
    (hs : Region.noSelect ops = true) (hf : Region.free md ops listed i = true) (hr : (Region.ready md ops listed).contains i = true)
    (hw : (waits md ops i U && U.contains i && U.contains d && !(d == i) && U.all fun u => !(listed.getD u true)) = true)
    (hQ : ∀ c a w, Q (.panic c) (a.put oi.dst v) w → Q (.panic c) a w) (hy : YieldsIf P ops S oi v a) (hS : S w)
    (h : wpAnyX P md ops Q S d fuel (listed.setIfInBounds i true) (a.put oi.dst v) w) : wpAnyX P md ops Q S d (fuel + 1) listed a w := by
  simp only [Bool.and_eq_true, Bool.not_eq_true', List.contains_iff_mem, beq_eq_false_iff_ne] at hw
  obtain ⟨⟨⟨⟨h1, h2⟩, h3⟩, h4⟩, h5⟩ := hw
  exact wpAnyX_first hi (Region.noSelect_spec hs) hQ h1 h2 h3 h4 fuel listed a w (Region.free_spec hi hf) (by simpa using hr) (fun u hu => by simpa using List.all_eq_true.1 h5 u hu) hy hS h

/-- Each of the operations rs comes up next. -/
def AllReadyX (P : Program) (md : Region.Mode) (ops : Array Oper) (Q : Exit → Act → World → Prop) (S : World → Prop) (d fuel : Nat) (listed : Array Bool) (a : Act) (w : World) (rs : List Nat) : Prop :=
  ∀ i ∈ rs, wpOp P ops Q i (fun a' w' => (i ≠ d → S w') ∧ wpAnyX P md ops Q S d fuel (listed.setIfInBounds i true) a' w') a w

theorem AllReadyX.nil {fuel : Nat} {listed : Array Bool} {a : Act} {w : World} : AllReadyX P md ops Q S d fuel listed a w [] := fun _ h => by cases h

theorem AllReadyX.cons {fuel : Nat} {listed : Array Bool} {a : Act} {w : World} {i : Nat} {o : Oper} {rs : List Nat} (ho : ops[i]? = some o) (hd : i ≠ d)
    (h : ∀ K' : Act → World → Prop, Shut (∀ a w, S w → (S w → wpAnyX P md ops Q S d fuel (listed.setIfInBounds i true) a w) → K' a w) → if Region.wanted o (yielded ops a.tmps) = true then Oper.wp P o a w K' Q else K' (a.put o.dst undef) w)
    (hs : AllReadyX P md ops Q S d fuel listed a w rs) : AllReadyX P md ops Q S d fuel listed a w (i :: rs) := fun j hj => by
  rcases List.mem_cons.1 hj with rfl | hj
  · exact wpOp_step ho (fun K' hK => h K' (fun a w hS hW => hK a w ⟨fun _ => hS, hW hS⟩))
  · exact hs j hj

/-- The last one: S is asked no more. -/
theorem AllReadyX.last {fuel : Nat} {listed : Array Bool} {a : Act} {w : World} {o : Oper} (ho : ops[d]? = some o)
    (h : ∀ K' : Act → World → Prop, Shut (∀ a w, wpAnyX P md ops Q S d fuel (listed.setIfInBounds d true) a w → K' a w) → if Region.wanted o (yielded ops a.tmps) = true then Oper.wp P o a w K' Q else K' (a.put o.dst undef) w) :
    AllReadyX P md ops Q S d fuel listed a w [d] := fun j hj => by
  rcases List.mem_cons.1 hj with rfl | hj
  · exact wpOp_step ho (fun K' hK => h K' (fun a w hW => hK a w ⟨fun e => absurd rfl e, hW⟩))
  · cases hj

theorem wpAnyX_ready {rs : List Nat} {fuel : Nat} {listed : Array Bool} {a : Act} {w : World} (hr : Region.ready md ops listed = rs) (hne : rs ≠ [])
    (h : AllReadyX P md ops Q S d fuel listed a w rs) : wpAnyX P md ops Q S d (fuel + 1) listed a w := ⟨fun h0 => absurd (hr ▸ h0) hne, hr ▸ h⟩

theorem wpAnyX_done {listed : Array Bool} {a : Act} {w : World} (hr : Region.ready md ops listed = []) (h : Q .normal a w) :
    ∀ fuel, wpAnyX P md ops Q S d fuel listed a w
  | 0 => ⟨hr, h⟩
  | _ + 1 => ⟨fun _ => h, by rw [hr]; simp⟩

theorem wp_region_x {id : Nat} {a : Act} {w : World} (hm : P.follows .mixedOrders = true) (hS : S w.drew)
    (h : S w.drew → wpAnyX P .any ops Q S d ops.size (Array.replicate ops.size false) a w.drew) : (Code.region id ops true).wp P Q a w :=
  wp_region_any hm (wpAny_of_x _ _ _ _ (h hS))

end
end Rx
end Go.Proofs.YtmojegnflcokjaaDoor
