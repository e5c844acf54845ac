/-
  The statement AttrJoins: for every text, every number and every attribute the law AttrJoins returns true, and its arguments read afterwards as they read before.
-/
import Derived.Test.YtjocabnhdifedaaAttN
import Derived.Test.YtjocabnhdifedaaAttOpen
import Derived.Test.YtjocabnhdifedaaRows
namespace Go.Proofs.Ytjocabnhdifedaa
open Go.RowKit
namespace Att
open Oct

theorem open_at {H : Type} {enc : TypeId × Value → H} {W : World} {base b0 : Nat} {spare : Nat → Bool} {held : Bool} {r : Reach} {v : Value} {d : DataW H} {p : List MemPlace}
    (hv : Value.okWide Try.prog W r b0 37 v) (h : DataW.Trod enc Try.prog W base spare held 37 v d p) : ∃ x : At, v = av x ∧ x.2.size ≤ maxLen := by
  obtain ⟨l, n, rfl, hl, hf⟩ := Fr.open_fields Try.underlying37 (by kernel_rfl) (by kernel_rfl) hv h
  obtain ⟨c0, c1, rfl⟩ : ∃ a b, l = [a, b] := by
    match l, hl with
    | [a, b], _ => exact ⟨a, b, rfl⟩
  obtain ⟨_, y0, e0, t0⟩ := hf 0 _ rfl
  obtain ⟨_, y1, e1, t1⟩ := hf 1 _ rfl
  simp at e0 e1
  subst e0 e1
  obtain ⟨a0, h0, _, _⟩ := DataW.trod_int Try.underlying3 t0
  obtain ⟨a1, h1, _, w1⟩ := DataW.trod_string Try.underlying9 t1
  simp at h0 h1
  subst h0 h1
  exact ⟨(a0, a1), rfl, w1⟩

/-- Others between. -/
def inter (x : At) (l : List At) : List At := l.flatMap (fun a => [x, a])

theorem inter_take (x : At) (l : List At) (k : Nat) (h : k < l.length) : inter x (l.take (k + 1)) = inter x (l.take k) ++ [x, l[k]] := by
  rw [List.take_succ_eq_append_getElem h]
  unfold inter
  rw [List.flatMap_append]
  rfl

theorem inter_length (x : At) (l : List At) : (inter x l).length = 2 * l.length := by
  induction l with
  | nil => rfl
  | cons a l ih =>
    show ([x, a] ++ inter x l).length = _
    rw [List.length_append, ih]
    show 2 + 2 * l.length = 2 * (l.length + 1)
    omega

theorem inter_all (x : At) (l : List At) (kind : Int) (h : x.1 ≠ kind) : allV (inter x l) kind = allV l kind := by
  induction l with
  | nil => rfl
  | cons a l ih =>
    have e1 : inter x (a :: l) = x :: a :: inter x l := rfl
    have hx : (x.1 == kind) = false := by simp [h]
    rw [e1]
    unfold allV at ih ⊢
    rw [List.filter_cons, hx]
    by_cases ha : (a.1 == kind) = true
    · rw [List.filter_cons_of_pos (by exact ha), List.filter_cons_of_pos (by exact ha)]
      simp [ih]
    · rw [List.filter_cons_of_neg (by exact ha), List.filter_cons_of_neg (by exact ha)]
      simpa using ih

theorem split_parts (kind : Int) : ∀ (m : Nat) (s : List UInt8), (splitL kind m s).length ≤ m ∧ (∀ a ∈ splitL kind m s, a.1 = kind ∧ 1 ≤ a.2.size ∧ a.2.size ≤ 253)
  | 0, s => ⟨Nat.le_refl _, fun a h => by cases h⟩
  | m + 1, [] => ⟨Nat.zero_le _, fun a h => by cases h⟩
  | m + 1, b :: s => by
    obtain ⟨h1, h2⟩ := split_parts kind m ((b :: s).drop 253)
    rw [splitL]
    refine ⟨by rw [List.length_cons]; omega, fun a h => ?_⟩
    rcases List.mem_cons.1 h with rfl | h
    · have e : (⟨((b :: s).take 253).toArray⟩ : ByteArray).size = min 253 (s.length + 1) := by
        show ((b :: s).take 253).toArray.size = _
        rw [List.size_toArray, List.length_take, List.length_cons]
      refine ⟨rfl, ?_, ?_⟩
      · show 1 ≤ ByteArray.size _
        rw [e]; omega
      · show ByteArray.size _ ≤ 253
        rw [e]; omega
    · exact h2 a h

theorem all_kind (l : List At) (kind : Int) (h : ∀ a ∈ l, a.1 = kind) : allV l kind = l.map (·.2) := by
  unfold allV
  rw [List.filter_eq_self.2 (fun a ha => by simp [h a ha])]

theorem split_cat (kind : Int) : ∀ (m : Nat) (s : List UInt8), s.length ≤ 253 * m → (((splitL kind m s).map (·.2)).map (fun v : ByteArray => v.data.toList)).flatten = s
  | 0, s, h => by
    have : s = [] := List.eq_nil_of_length_eq_zero (by omega)
    subst this
    rfl
  | m + 1, [], h => rfl
  | m + 1, b :: s, h => by
    have ih := split_cat kind m ((b :: s).drop 253) (by rw [List.length_drop]; omega)
    rw [splitL, List.map_cons, List.map_cons, List.flatten_cons, ih]
    show (b :: s).take 253 ++ (b :: s).drop 253 = b :: s
    rw [List.take_append_drop]

theorem splitR_facts (kind : Int) (s : ByteArray) (h : splitE kind s.size = 0) : (splitR kind s).length ≤ 64 ∧ (∀ a ∈ splitR kind s, 1 ≤ a.2.size ∧ a.2.size ≤ 253) ∧ catS (allV (splitR kind s) kind) = s := by
  have hz : s.size ≤ 16192 := by
    unfold splitE at h
    split at h
    · cases h
    · split at h
      · cases h
      · omega
  have e : splitR kind s = splitL kind 64 s.data.toList := if_pos h
  rw [e]
  obtain ⟨h1, h2⟩ := split_parts kind 64 s.data.toList
  refine ⟨h1, fun a ha => (h2 a ha).2, ?_⟩
  rw [all_kind _ _ (fun a ha => (h2 a ha).1)]
  unfold catS
  rw [split_cat kind 64 s.data.toList (by rw [size_list]; omega)]

theorem at_next2 {w : World} {base : Nat} {v : Value} {o : List At} {x y : At} {e : TypeId} (h : w.ownsRow base e 2 v (o.length + 2) (o.flatMap enc ++ [.int .i64 x.1, .string x.2, .int .i64 y.1, .string y.2])) : ∃ B c, v = .slice B (o ++ [x, y]).length c ∧ w.ownsRow base e 2 (.slice B (o ++ [x, y]).length c) (o ++ [x, y]).length ((o ++ [x, y]).flatMap enc) := by
  obtain ⟨B, c, rfl⟩ := at_form h
  refine ⟨B, c, by simp, ?_⟩
  have e1 : (o ++ [x, y]).flatMap enc = o.flatMap enc ++ [.int .i64 x.1, .string x.2, .int .i64 y.1, .string y.2] := by simp [enc]
  rw [e1]
  simpa using h

theorem four_behind (w : World) (o : Obj) (x : Int) (y : ByteArray) (z : Int) (u : ByteArray) (t : TypeId) : ∀ j v, [Value.int .i64 x, .string y, .int .i64 z, .string u][j]? = some v → ((w.alloc o).alloc (Obj.cells #[.int .i64 x, .string y, .int .i64 z, .string u] t)).cell? (Addr.add ⟨w.heap.size + 1, 0, none⟩ j) = some v := by
  intro j v hj
  have e : w.heap.size + 1 = (w.alloc o).heap.size := by simp
  rw [Addr.add_lit, Nat.zero_add, e, World.cell?_alloc_new]
  simpa using hj

set_option maxHeartbeats 1000000 in
theorem joins_long (s : ByteArray) (kind : Int) (x : At) (w : World) (hs : 20000 < s.size) :
    Calls Try.prog 5 #[.string s, .int .i64 kind, av x] w fun e w' => e = .returned (.bool true) ∧ Below w.heap.size w w' := by
  have B0 := Lib.hid (Bx.box_below w (Obj.cells #[.int .i64 x.1, .string x.2] 37))
  go_enter Try.func5, Try.ntmps5
  go_wp2_with fail
  refine (awake_any _).mono ?_; rintro e w2 ⟨rfl, hb2⟩
  have B2 := Lib.hid (Bx.then_below B0.out hb2)
  go_wp2_with fail
  go_ret
  exact ⟨rfl, B2.out⟩

set_option maxHeartbeats 4000000 in
theorem joins_main (s : ByteArray) (kind : Int) (x : At) (w : World) (hs : s.size ≤ 20000) (R : List At) (E : Int) (hR : R.length ≤ 64) (hE : E = 0 → (∀ a ∈ R, 1 ≤ a.2.size ∧ a.2.size ≤ 253) ∧ catS (allV R kind) = s)
    (HSP : Hid (∀ w, Calls Try.prog 24 #[.int .i64 kind, .string s] w (GivesE R E w)))
    (HRP : Hid (∀ w, Calls Try.prog 25 #[.int .i64 kind, .string s] w (GivesE R E w))) :
    Calls Try.prog 5 #[.string s, .int .i64 kind, av x] w fun e w' => e = .returned (.bool true) ∧ Below w.heap.size w w' := by
  obtain ⟨i0, hi, hz0, hz1, hz2⟩ := info_parts info_at
  have HSM : Hid (∀ (w : World) (A B : Option Addr) (c d : Nat), Ats w A R → Ats w B R → Calls Try.prog 18 #[.slice A R.length c, .slice B R.length d] w fun e w' => e = .returned (.bool true) ∧ Below w.heap.size w w') := Lib.hid (fun w A B c d h1 h2 => by
    have e := rsame_any R R (by unfold maxLen; omega) (by unfold maxLen; omega) A B c d w h1 h2
    rw [decide_eq_true rfl] at e
    exact e.mono fun _ _ ⟨h1, q, h3⟩ => ⟨h1, by subst h3; exact drew_below _ _⟩)
  have HJN : Hid (E = 0 → ∀ (w : World) (A : Option Addr) (c : Nat), Ats w A R → Calls Try.prog 21 #[.slice A R.length c, .int .i64 kind] w fun e w' => e = .returned (.string s) ∧ Below w.heap.size w w') := Lib.hid (fun h0 w A c h1 => by
    have e := join_any R (by omega) kind (by rw [(hE h0).2]; omega) A c w h1
    rwa [(hE h0).2] at e)
  have HJI : Hid (E = 0 → x.1 ≠ kind → ∀ (w : World) (A : Option Addr) (c : Nat), Ats w A (inter x R) → Calls Try.prog 21 #[.slice A (inter x R).length c, .int .i64 kind] w fun e w' => e = .returned (.string s) ∧ Below w.heap.size w w') := Lib.hid (fun h0 hx w A c h1 => by
    have e := join_any (inter x R) (by rw [inter_length]; omega) kind (by rw [inter_all x R kind hx, (hE h0).2]; omega) A c w h1
    rwa [inter_all x R kind hx, (hE h0).2] at e)
  have HPT := Lib.hid (fun h0 => (hE h0).1)
  clear hE
  have hs' : ¬ (20000 : Int) < s.size := by omega
  have hR' : R.length ≤ 9223372036854775807 := by omega
  have B0 := Lib.hid (Bx.box_below w (Obj.cells #[.int .i64 x.1, .string x.2] 37))
  have X0 := Lib.hid (Boxed.new w x)
  obtain ⟨x1, x2⟩ := x
  simp only at B0 HJI
  go_enter Try.func5, Try.ntmps5
  go_wp2_with fail
  refine (HSP.out _).mono ?_; rintro e w1 ⟨A, c, rfl, ha1, hb1⟩
  have A1 := Lib.hid ha1
  have B1 := Lib.hid (Bx.then_below B0.out hb1)
  have X1 := Lib.hid (X0.out.below hb1)
  clear ha1 hb1 B0 X0
  go_wp2_with fail
  refine (HRP.out _).mono ?_; rintro e w2 ⟨C, d, rfl, hc2, hb2⟩
  have A2 := Lib.hid (A1.out.below hb2)
  have C2 := Lib.hid hc2
  have B2 := Lib.hid (Bx.then_below B1.out hb2)
  have X2 := Lib.hid (X1.out.below hb2)
  clear hc2 hb2 B1 X1 A1
  go_wp2_with fail
  refine (HSM.out _ _ _ _ _ A2.out C2.out).mono ?_; rintro e w3 ⟨rfl, hb3⟩
  have A3 := Lib.hid (A2.out.below hb3)
  have B3 := Lib.hid (Bx.then_below B2.out hb3)
  have X3 := Lib.hid (X2.out.below hb3)
  clear hb3 A2 C2 B2 X2
  have d0 := X3.out.c0
  simp only at d0
  by_cases h0 : E = 0
  · by_cases hx : x1 = kind
    · replace hx := hx.symm
      subst hx h0
      go_wp2_with fail
      refine (awake_any _).mono ?_; rintro e w4 ⟨rfl, hb4⟩
      have B4 := Lib.hid (Bx.then_below B3.out hb4)
      go_wp2_with fail
      go_ret
      exact ⟨rfl, B4.out⟩
    · subst h0
      have HJN2 := Lib.hid (HJN.out rfl)
      have HJI2 := Lib.hid (HJI.out rfl hx)
      have HPT2 := Lib.hid (HPT.out rfl)
      clear HJN HJI HPT
      have hsz3 := B3.out.size
      have hxe : (x1 == kind) = false := by simp [hx]
      clear hx
      go_wp2
      go_loopw [6, 11, 13, 50] (fun _ v _ ix wr => ∃ (k : Nat) (B : Option Addr) (f : Nat) (o : List At), k ≤ R.length ∧ ix = .int .i64 k ∧ v = .slice B o.length f ∧ o.length = 2 * k ∧ Aside (inter (x1, x2) (R.take k) = o) ∧
        Aside (wr.ownsRow w3.heap.size 37 2 (.slice B o.length f) o.length (o.flatMap enc)) ∧ Aside (Below w3.heap.size w3 wr)) (fun _ _ _ ix _ => R.length - (intOf ix).toNat)
      case atStart => exact ⟨0, none, 0, [], Nat.zero_le _, rfl, rfl, rfl, rfl, World.ownsRow_nil _ _ _ _, Below.refl _ _⟩
      case round =>
        obtain ⟨k, B, f, o, hk, rfl, rfl, ho, HO, HW, HB⟩ := hrel
        have HOL := Lib.hid ho
        clear ho
        by_cases hlt : k < R.length
        · obtain ⟨b, q, rfl, _, c0, c1⟩ := (A3.out.below HB.out).at hlt
          have HN := Lib.hid (inter_take (x1, x2) R k hlt)
          obtain ⟨p1, p2⟩ := HPT2.out R[k] (List.getElem_mem hlt)
          rw [HO.out] at HN
          generalize R[k] = a at *
          obtain ⟨a1, a2⟩ := a
          simp only at c0 c1 HN p1 p2
          have BX := Lib.hid (Bx.bel_box HB.out (Obj.cells #[.int .i64 a1, .string a2] 37))
          have HW1 := Lib.hid (HW.out.alloc (Obj.cells #[.int .i64 a1, .string a2] 37))
          have XR := Lib.hid ((X3.out.below HB.out).below (Bx.box_below wr (Obj.cells #[.int .i64 a1, .string a2] 37)))
          have x0 := XR.out.c0
          have x1' := XR.out.c1
          simp only at x0 x1'
          have hszr := HB.out.size
          have hol := HOL.out
          have HB4 := Lib.hid (show o.length + 2 ≤ maxLen ∧ (o.length + 2) * 24 ≤ 140737488355328 by unfold maxLen; omega)
          have HL2 := Lib.hid (show (o ++ [(x1, x2), (a1, a2)]).length = 2 * (k + 1) by rw [List.length_append, hol]; show 2 * k + 2 = _; omega)
          clear hol
          go_wp2_with (at_builtin; refine wpList_append_own _ rfl _ _ 22 rfl w3.heap.size 37 i0 (.agg #[.int .i64 0, .string ⟨#[]⟩]) 2 24 Try.underlying22 hi hz0 hz1 hz2 rfl (by decide) _ _ _ rfl (HW1.out.alloc _) ⟨_, 0, none⟩ 2 2 [.int .i64 x1, .string x2, .int .i64 a1, .string a2] rfl rfl ?c1 ?c2 ?c3 ?c4 ?c5 ?_)
          case c1 => exact four_behind _ _ _ _ _ _ _
          case c2 => intro u hu; simp at hu; rcases hu with rfl | rfl | rfl | rfl <;> rfl
          case c3 => exact HB4.out.1
          case c4 => exact HB4.out.2
          case c5 => simp; omega
          intro v' w5 hown' hgrow _
          have hrow := HW1.out.lt
          have bel := (Bx.bel_box BX.out (Obj.cells #[.int .i64 x1, .string x2, .int .i64 a1, .string a2] 37)).grown hgrow (by simp; omega) (fun q hq => (hrow q hq).1)
          obtain ⟨B', f', rfl, hW'⟩ := at_next2 (x := (x1, x2)) (y := (a1, a2)) hown'
          have HW2 := Lib.hid hW'
          have HBL := Lib.hid bel
          clear hown' hgrow hrow hW' bel x0 x1'
          go_wp2
          go_roundw
          case rel => exact ⟨k + 1, B', f', o ++ [(x1, x2), (a1, a2)], by omega, by go_num, by simp, HL2.out, HN.out, HW2.out, HBL.out⟩
          case measure => simp [intOf]; omega
        · have HO2 := HO.out
          rw [List.take_of_length_le (by omega)] at HO2
          subst HO2
          obtain ⟨_, _, e1, h3⟩ := Ats.of_own HW.out
          injection e1 with e1 _ e4
          subst e1 e4
          have AI := Lib.hid h3
          have AR := Lib.hid (A3.out.below HB.out)
          have BR := Lib.hid (Bx.then_below B3.out HB.out)
          clear h3 HW HB HOL
          go_wp2_with fail
          refine (HJI2.out _ _ _ AI.out).mono ?_; rintro e w5 ⟨rfl, hb5⟩
          have A5 := Lib.hid (AR.out.below hb5)
          have B5 := Lib.hid (Bx.then_below BR.out hb5)
          clear hb5 AI AR BR
          go_wp2_with fail
          refine (HJN2.out _ _ _ A5.out).mono ?_; rintro e w6 ⟨rfl, hb6⟩
          have B6 := Lib.hid (Bx.then_below B5.out hb6)
          clear hb6 A5 B5
          go_wp2_with fail
          refine (awake_any _).mono ?_; rintro e w7 ⟨rfl, hb7⟩
          have B7 := Lib.hid (Bx.then_below B6.out hb7)
          go_wp2_with fail
          go_ret
          exact ⟨rfl, B7.out⟩
  · have hE1 : (E == 0) = false := by simp [h0]
    go_wp2_with fail
    refine (awake_any _).mono ?_; rintro e w4 ⟨rfl, hb4⟩
    have B4 := Lib.hid (Bx.then_below B3.out hb4)
    go_wp2_with fail
    go_ret
    exact ⟨rfl, B4.out⟩

theorem walk_joins (w : World) (s : ByteArray) (_hs : s.size ≤ maxLen) (kind : Int) (_hk : (Lit.int .i64 kind).wf = true) (x : At) (_hx : x.2.size ≤ maxLen) :
    Calls Try.prog 5 #[.string s, .int .i64 kind, av x] w fun e w' => e = .returned (.bool true) ∧ Below w.heap.size w w' := by
  by_cases hz : 20000 < s.size
  · exact joins_long s kind x w hz
  · have hE := splitR_facts kind s
    have hR : (splitR kind s).length ≤ 64 := by
      by_cases h : splitE kind s.size = 0
      · exact (hE h).1
      · have e : splitR kind s = [] := if_neg h
        rw [e]; exact Nat.zero_le _
    exact joins_main s kind x w (by omega) (splitR kind s) (splitE kind s.size) hR (fun h => (hE h).2) (Lib.hid (fun w => split_any kind s (by omega) w)) (Lib.hid (fun w => rsplit_any kind s (by omega) w))

end Att
namespace LawAttrJoins
open Go.ChangeShapes Go.WideShapes Go.ChangeAt Go.RowKit
open Go.ChangeMaps (open_string shut_string)

theorem own : ownKnob Try.prog.godebug = none := by kernel_rfl
theorem laidOut : laidOutB Try.prog = true := by kernel_rfl

set_option maxRecDepth 100000 in
theorem lifted (os : Os) (started : os.Started) (H : Type) (enc : TypeId × Value → H) :
    ReturnsInHanded {} Try.checked os 5 .any (Rows.attrJoinsSpec.pre6 enc Try.prog Try.f5 Rows.attrJoinsRow.domain false) (Rows.attrJoinsSpec.post enc Try.prog Try.f5 false true false false) := by
  refine Fr.law_lift (C := Try.checked) (tb := 4) own started (by kernel_rfl) Try.func5
    (ChangeSpec.witness6 (enc := enc) (C := Try.checked) false ⟨#[], #[.string ByteArray.empty, .int .i64 0, .agg #[.int .i64 0, .string ByteArray.empty]], []⟩ 8 (by kernel_rfl) (by kernel_rfl) (by kernel_rfl) (by kernel_rfl))
    laidOut (by rw [Try.params5]; decide +kernel) rfl Try.underlying4 rfl ?_ ?_
  · intro ds hl
    match ds, hl with
    | [d0, d1, d2], _ => rfl
  · intro W base args ds p hval hA
    rw [Try.params5] at hA hval
    obtain ⟨v0, vs0, d0, ds0, p0, q0, hargs, rfl, rfl, h0, r0⟩ := trodAll_cons hA
    obtain ⟨v1, vs1, d1, ds1, p1, q1, rfl, rfl, rfl, h1, r1⟩ := trodAll_cons r0
    obtain ⟨v2, vs2, d2, ds2, p2, q2, rfl, rfl, rfl, h2, r2⟩ := trodAll_cons r1
    obtain ⟨rfl, rfl, rfl⟩ := trodAll_nil r2
    obtain rfl : args = #[v0, v1, v2] := by cases args; simp_all
    obtain ⟨a0, rfl, rfl, rfl, w0⟩ := open_string Try.underlying9 (hval 0 9 v0 rfl rfl) h0
    obtain ⟨a1, rfl, rfl, rfl, w1⟩ := open_int Try.underlying3 (hval 1 3 v1 rfl rfl) h1
    obtain ⟨x2, rfl, hx2⟩ := Att.open_at (hval 2 37 v2 rfl rfl) h2
    exact Att.walk_joins W a0 w0 a1 w1 x2 hx2

theorem over : Rows.attrJoinsRow.holds Try.pinned (OpenSpec.ofChange Rows.attrJoinsSpec) :=
  OpenClaim.holds_of_wide 5 Try.f5 rfl rfl rfl rfl rfl rfl rfl ⟨rfl, rfl, rfl, rfl, rfl⟩ rfl rfl rfl rfl rfl (by kernel_rfl) Try.func5 (by kernel_rfl)
    (of_decide_eq_true (by kernel_rfl)) (by unfold Func.isWrapper; first | (rw [if_pos (by decide +kernel)]; kernel_rfl) | (rw [if_neg (by decide +kernel)]; exact ⟨rfl, rfl⟩))
    (fun os started H enc _ => lifted os started H enc)
end LawAttrJoins

/-- The statement AttrJoins. -/
theorem attrJoins_holds : Rows.AttrJoinsSaid := LawAttrJoins.over

end Go.Proofs.Ytjocabnhdifedaa
