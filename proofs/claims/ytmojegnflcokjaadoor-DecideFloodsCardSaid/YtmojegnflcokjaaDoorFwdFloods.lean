/-
  The statement DecideFloods (a tied card): for every table, every plan, every frame and every way, in every memory that holds the table of reserved addresses as the text lays it, the law DecideFloods returns true, and its arguments read afterwards as they read before.
-/
import Derived.Test.YtmojegnflcokjaaDoorFwdFloA
import Derived.Test.YtmojegnflcokjaaDoorFwdOpen
import Derived.Test.YtmojegnflcokjaaDoorCards
import Derived.Test.YtmojegnflcokjaaDoorTie
import Derived.SevenTiedAt
namespace Go.Proofs.YtmojegnflcokjaaDoor
open Go.RowKit
namespace Fwd
open Oct Eth Tab

theorem and16 (x : Nat) (hx : x < 18446744073709551616) : bits .and .u64 (x : Int) 65535 = ((x % 65536 : Nat) : Int) := by
  have e := u64_and_nat x 65535 hx (by omega)
  have f := Mac.and_low x 16
  rw [show (65535 : Int) = ((65535 : Nat) : Int) by rfl, e]
  rw [show (2 : Nat) ^ 16 = 65536 by rfl] at f
  rw [show 65535 = 65536 - 1 by rfl, f]

theorem group_or (d : Nat) (hd : d < 18446744073709551616) : bits .or .u64 1099511627776 (bits .and .u64 (d : Int) 65535) = ((1099511627776 + d % 65536 : Nat) : Int) := by
  have h := Mac.made_or 65536 (d % 65536) (by decide) (by omega)
  rw [and16 d hd]
  have e : (65536 : Nat) * 16777216 + d % 65536 = 1099511627776 + d % 65536 := by omega
  rw [e] at h
  exact h

/-- What holds of a call that changes nothing. -/
theorem quiet {P : Program} {f : FuncId} {args : Array Value} {w : World} {v : Ending} (h : Calls P f args w fun e w' => e = v ∧ w = w') : Calls P f args w fun e w' => e = v ∧ Below w.heap.size w w' := h.mono fun _ _ ⟨a, b⟩ => ⟨a, by subst b; exact Bx.bel_refl _⟩

theorem walk_floods (w : World) (most long : Int) (A : Option Addr) (l : List Tab.En) (ct : Nat) (hl : l.length ≤ maxLen) (hA : Tab.Ents w A l) (o k : Nat → Int) (AP : Option Addr) (L : List Mem.Vl) (c : Nat) (d s : Nat) (g : Bool) (p v t : Int) (X : ByteArray) (hL : L.length ≤ maxLen) (hP : Mem.Vls w AP L) (hd : d < 18446744073709551616) (_hs : s < 18446744073709551616) (_hX : X.size ≤ maxLen) (q ln op : Int) (hm : Home w) :
    Calls Tryd.prog 5 #[tv most long A l.length ct, xv o k AP L.length c d s g p v t X, .agg #[.int .i64 q, .int .i64 ln, .int .i64 op]] w fun e w' => e = .returned (.bool true) ∧ Below w.heap.size w w' := by
  have HLG := fun w' (_ : Below w.heap.size w w') => Mem.long_any o k AP L.length hL c w'
  have HAW := Lib.hid (fun w' (hb : Below w.heap.size w w') => awake_any w' (hm.below hb))
  by_cases h1 : 100 < L.length
  · rw [decide_eq_true h1] at HLG
    exact floods_long most long l hl A ct o k AP L.length c d s g p v t X q ln op w (Lib.hid HLG) HAW
  rw [decide_eq_false h1] at HLG
  replace HLG := Lib.hid HLG
  by_cases h2 : (60 : Int) < l.length
  · exact floods_tab most long l hl A ct o k AP L.length c d s g p v t X q ln op w h2 HLG HAW
  by_cases h3 : 12000 < X.size
  · exact floods_body most long l hl A ct o k AP L.length c d s g p v t X q ln op w h2 h3 HLG HAW
  have hE := group_or d hd
  have hk : kindN 2048 (1099511627776 + d % 65536) = 0 := by
    unfold kindN
    rw [if_neg (by decide), if_neg (by omega)]
    have : Mac.reservedB (1099511627776 + d % 65536) = false := by unfold Mac.reservedB; exact decide_eq_false (by omega)
    rw [this]
    rfl
  have hg : Mac.groupB (1099511627776 + d % 65536) = true := by unfold Mac.groupB; exact decide_eq_true (by omega)
  have HKI := fun w' (hb : Below w.heap.size w w') => kind_any (1099511627776 + d % 65536) s g p v 2048 X w' (hm.below hb)
  rw [hk] at HKI
  have HPO := fun w' (hb : Below w.heap.size w w') => ports_any most long l hl A ct o k L hL AP c (1099511627776 + d % 65536) (by omega) s g p v 2048 X v q op w' (hA.below hb) (hP.below hb) (hm.below hb)
  have HOF := Lib.hid (fun w' (hb : Below w.heap.size w w') => Mem.of_any o k L hL AP c v w' (hP.below hb))
  have HWO := Lib.hid (fun w' (_ : Below w.heap.size w w') => quiet (Por.without_any (bits .and .i64 (Mem.ofV L v) op) q w'))
  have HHA := fun w' (_ : Below w.heap.size w w') => quiet (Por.has_any op q w')
  cases ho : Por.hasZ (Por.low op) q with
  | true =>
    rw [ho] at HHA
    rw [ports_all hk ho (.inl hg)] at HPO
    exact floods_true most long l hl A ct o k AP L.length c d s g p v t X q ln op w h2 h3 _ _ (othersI L v op q) hE HLG HOF HWO (Lib.hid HHA) (Lib.hid HPO) (Lib.hid HKI) HAW
  | false =>
    rw [ho] at HHA
    rw [ports_none (by rw [ho]; simp)] at HPO
    exact floods_false most long l hl A ct o k AP L.length c d s g p v t X q ln op w h2 h3 _ _ (othersI L v op q) hE HLG HOF HWO (Lib.hid HHA) (Lib.hid HPO) (Lib.hid HKI) HAW

end Fwd
namespace LawDecideFloods
open Go.ChangeShapes Go.WideShapes Go.ChangeAt Go.RowKit
open Go.ChangeMaps (open_string shut_string)

theorem own : ownKnob Tryd.prog.godebug = none := by kernel_rfl
theorem laidOut : laidOutB Tryd.prog = true := by kernel_rfl
theorem plain : (Rows.decideFloodsRow.laid.all fun x => x.2.handleName?.isNone) = true := by kernel_rfl

set_option maxRecDepth 100000 in
theorem lifted (os : Os) (started : os.Started) (H : Type) (enc : TypeId × Value → H) :
    ReturnsInHanded {} Tryd.checked os 5 .any (fun w args => (Rows.decideFloodsSpec.pre enc Tryd.prog Tryd.f5 Rows.decideFloodsRow.domain false w args ∧ laidMetH Tryd.prog Rows.decideFloodsRow.laid w) ∧ sizedMet enc Tryd.prog Tryd.f5 (OpenSpec.ofChange Rows.decideFloodsSpec) false w args)
      (Rows.decideFloodsSpec.post enc Tryd.prog Tryd.f5 false true false false) := by
  refine Fr.law_lift_laid (C := Tryd.checked) (laid := Rows.decideFloodsRow.laid) (tb := 4) own started (by kernel_rfl) Tryd.func5
    (ChangeSpec.witness_shaped (enc := enc) (C := Tryd.checked) (os := os) (X := fun w _ => laidMetH Tryd.prog Rows.decideFloodsRow.laid w) false (World.laidAll Tryd.prog os Rows.decideFloodsRow.laid) #[.agg #[.int .i64 0, .int .i64 0, .slice none 0 0], .agg #[.int .i64 0, .int .i64 0, .int .i64 0, .int .i64 0, .int .i64 0, .int .i64 0, .int .i64 0, .int .i64 0, .int .i64 0, .int .i64 0, .int .i64 0, .int .i64 0, .int .i64 0, .int .i64 0, .int .i64 0, .int .i64 0, .slice none 0 0, .int .u64 0, .int .u64 0, .bool false, .int .i64 0, .int .i64 0, .int .i64 0, .string ByteArray.empty], .agg #[.int .i64 0, .int .i64 0, .int .i64 0]] 8 (World.laidAll_os _ _ _)
      (World.shaped_of_ZipB (by kernel_rfl) (by kernel_rfl)) (by kernel_rfl) (by kernel_rfl) (by kernel_rfl)
      (by rw [MakeChecks.laidMetH_plain _ _ _ plain]; exact laidMet_laidAll _ (by kernel_rfl) (by kernel_rfl)))
    laidOut (by rw [Tryd.params5]; decide +kernel) rfl Tryd.underlying4 rfl ?_ ?_
  · intro ds hl
    match ds, hl with
    | [d0, d1, d2], _ => rfl
  · intro W base args ds p hsh hL hval hA
    rw [Tryd.params5] at hA hval
    obtain ⟨v0, vs0, d0, ds0, p0, q0, hargs, rfl, rfl, h0, r0⟩ := trodAll_cons hA
    obtain ⟨v1, vs1, d1, ds1, p1, q1, rfl, rfl, rfl, h1, r1⟩ := trodAll_cons r0
    obtain ⟨v2, vs2, d2, ds2, p2, q2, rfl, rfl, rfl, h2, r2⟩ := trodAll_cons r1
    obtain ⟨rfl, rfl, rfl⟩ := trodAll_nil r2
    obtain rfl : args = #[v0, v1, v2] := by cases args; simp_all
    obtain ⟨m0, g0, A0, l0, k0, rfl, hl0, hA0, hw0⟩ := Tab.open_table (hval 0 24 v0 rfl rfl) h0
    obtain ⟨o1, k1, A1, L1, c1, x1, y1, g1, q1, u1, t1, X1, rfl, hL1, hP1, hx1, hy1, hX1⟩ := Fwd.open_case (hval 1 34 v1 rfl rfl) h1
    obtain ⟨a2, b2, c2, rfl⟩ := Fwd.open_way (hval 2 36 v2 rfl rfl) h2
    exact Fwd.walk_floods W m0 g0 A0 l0 k0 hl0 hA0 o1 k1 A1 L1 c1 x1 y1 g1 q1 u1 t1 X1 hL1 hP1 hx1 hy1 hX1 a2 b2 c2 (Fwd.home_of hsh hL plain (by simp [Rows.decideFloodsRow]))

theorem over : Rows.decideFloodsRow.holds Tryd.pinned (OpenSpec.ofChange Rows.decideFloodsSpec) :=
  OpenClaim.holds_of_wide 5 Tryd.f5 rfl rfl rfl rfl rfl rfl rfl ⟨rfl, rfl, rfl, rfl, rfl⟩ rfl rfl rfl rfl rfl (by kernel_rfl) Tryd.func5 (by kernel_rfl)
    (of_decide_eq_true (by kernel_rfl)) (by unfold Func.isWrapper; first | (rw [if_pos (by decide +kernel)]; kernel_rfl) | (rw [if_neg (by decide +kernel)]; exact ⟨rfl, rfl⟩))
    (fun os started H enc _ => lifted os started H enc)
end LawDecideFloods

/-- The statement DecideFloods (the tied card). -/
theorem decideFloods_holds : Rows.DecideFloodsCardSaid :=
  Claim7.holds_tied_plain_at .later [] _ true _ _ LawDecideFloods.over (fun _ h => by cases h) (by kernel_rfl) (fun _ h => by cases h) decideFloods_row_tie rfl ⟨rfl, rfl⟩ (by kernel_rfl) rfl
    (fun f fn hf hfn => by
      obtain rfl : f = 5 := Option.some.inj ((show Tryd.prog.funcNamed Rows.decideFloodsRow.func = some 5 by kernel_rfl).symm.trans hf) |>.symm
      obtain rfl : fn = Tryd.f5 := (Option.some.inj (Tryd.func5.symm.trans hfn)).symm
      exact ⟨by kernel_rfl, fun j t ht => by
        rw [Tryd.params5] at ht
        have hm : t ∈ [24, 34, 36] := by have := Array.mem_of_getElem? ht; simp at this; simp [this]
        have hall : ([24, 34, 36].all fun u => !Tryd.prog.wantsStandIn u) = true := by kernel_rfl
        exact (show Tryd.prog.wantsStandIn t = false by simpa using List.all_eq_true.1 hall t hm)⟩)
    (by kernel_rfl)

end Go.Proofs.YtmojegnflcokjaaDoor
