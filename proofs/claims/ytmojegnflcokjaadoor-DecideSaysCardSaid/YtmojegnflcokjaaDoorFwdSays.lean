/-
  The statement DecideSays (a tied card): for every table, every plan, every frame and every way, in every memory that holds the table of reserved addresses as the text lays it, the law DecideSays returns true, and its arguments read afterwards as they read before.
-/
import Derived.Test.YtmojegnflcokjaaDoorFwdSayA
import Derived.Test.YtmojegnflcokjaaDoorPkTabOpen
import Derived.Test.YtmojegnflcokjaaDoorCards
import Derived.Test.YtmojegnflcokjaaDoorTie
import Derived.SevenTiedAt
namespace Go.Proofs.YtmojegnflcokjaaDoor
open Go.RowKit
namespace Fwd
open Oct Eth Tab

theorem ch_srt {long : Int} : ∀ (l : List Tab.En) (q : Option Tab.En), chB long q l = true → (l.Pairwise fun x y => ahd x y = true) ∧ (∀ x, q = some x → ∀ e ∈ l, ahd x e = true)
  | [], q, _ => ⟨List.Pairwise.nil, fun x _ e he => by simp at he⟩
  | e :: l, q, h => by
    have h2 : chB long (some e) l = true ∧ (∀ x, q = some x → ahd x e = true) := by
      cases q with
      | none =>
        rw [chB, Bool.and_eq_true] at h
        exact ⟨h.2, fun x hx => by cases hx⟩
      | some y =>
        rw [chB, Bool.and_eq_true, Bool.and_eq_true] at h
        exact ⟨h.2, fun x hx => by cases hx; exact h.1.2⟩
    obtain ⟨p, f⟩ := ch_srt l (some e) h2.1
    refine ⟨List.pairwise_cons.2 ⟨f e rfl, p⟩, fun x hx y hy => ?_⟩
    rcases List.mem_cons.1 hy with rfl | hy
    · exact h2.2 x hx
    · exact ahd_trans (h2.2 x hx) (f e rfl y hy)

theorem snd_srt {most long : Int} {l : List Tab.En} (h : sndB most long l = true) : l.Pairwise fun x y => ahd x y = true := by
  unfold sndB at h
  rw [Bool.and_eq_true] at h
  exact (ch_srt l none h.2).1

theorem fwdO_len (most : Int) (l : List Tab.En) (o k : Nat → Int) (L : List Mem.Vl) (d s : Nat) (g : Bool) (p vv t : Int) (X : ByteArray) (q ln op : Int) : (fwdO most l o k L d s g p vv t X q ln op).length ≤ 8 := by
  unfold fwdO
  split
  · rw [outs_len]; exact portsL_len _ _ _ _ _ _ _
  · decide

theorem fwdL_len (most : Int) (l : List Tab.En) (o k : Nat → Int) (L : List Mem.Vl) (d s : Nat) (g : Bool) (vv t q ln : Int) : (fwdL most l o k L d s g vv t q ln).length ≤ l.length + 1 := by
  unfold fwdL
  split
  · exact learns_len _ _ _ _ _ _
  · omega

theorem rsame_self (most long : Int) (l : List Tab.En) (hl : l.length ≤ maxLen) (C D : Option Addr) (a b : Nat) (w : World) (hC : Tab.Ents w C l) (hD : Tab.Ents w D l) : Calls Tryd.prog 11 #[tv most long C l.length a, tv most long D l.length b] w fun e w' => e = .returned (.bool true) ∧ Below w.heap.size w w' := by
  have h := rsame_any most long most long l l hl hl C D a b w hC hD
  rwa [decide_eq_true ⟨rfl, rfl, rfl⟩] at h

theorem walk_says (w : World) (most long : Int) (A : Option Addr) (l : List Tab.En) (ct : Nat) (hl : l.length ≤ maxLen) (hA : Tab.Ents w A l) (hmm : ∀ e ∈ l, e.m < 18446744073709551616) (o k : Nat → Int) (AP : Option Addr) (L : List Mem.Vl) (c : Nat) (d s : Nat) (g : Bool) (p v t : Int) (X : ByteArray) (hL : L.length ≤ maxLen) (hP : Mem.Vls w AP L) (hd : d < 18446744073709551616) (hs : s < 18446744073709551616) (_hX : X.size ≤ maxLen) (q ln op : Int) (hm : Home w) :
    Calls Tryd.prog 3 #[tv most long A l.length ct, xv o k AP L.length c d s g p v t X, .agg #[.int .i64 q, .int .i64 ln, .int .i64 op]] w fun e w' => e = .returned (.bool true) ∧ Below w.heap.size w w' := by
  have HLG := fun w' (_ : Below w.heap.size w w') => Mem.long_any o k AP L.length hL c w'
  have HAW := Lib.hid (fun w' (hb : Below w.heap.size w w') => awake_any w' (hm.below hb))
  by_cases h1 : 100 < L.length
  · rw [decide_eq_true h1] at HLG
    exact says_long most long l hl A ct o k AP L.length c d s g p v t X q ln op w (Lib.hid HLG) HAW
  rw [decide_eq_false h1] at HLG
  replace HLG := Lib.hid HLG
  by_cases h2 : (60 : Int) < l.length
  · exact says_tab most long l hl A ct o k AP L.length c d s g p v t X q ln op w h2 HLG HAW
  by_cases h3 : 12000 < X.size
  · exact says_body most long l hl A ct o k AP L.length c d s g p v t X q ln op w h2 h3 HLG HAW
  have HSO := fun w' (hb : Below w.heap.size w w') => rsound_any most long l hl hmm A ct w' (hA.below hb)
  cases hsn : sndB most long l with
  | false =>
    rw [hsn] at HSO
    exact says_sound most long l hl A ct o k AP L.length c d s g p v t X q ln op w h2 h3 HLG (Lib.hid HSO) HAW
  | true =>
    rw [hsn] at HSO
    have hsr := snd_srt hsn
    have hf := fwdL_len most l o k L d s g v t q ln
    have hll := learns_len most l v s q ln
    exact says_all most long l hl A ct o k AP L.length c d s g p v t X q ln op w h2 h3 (fwdL most l o k L d s g v t q ln) (learnsL most l v s q ln) (fwdO most l o k L d s g p v t X q ln op) (fwdO_len _ _ _ _ _ _ _ _ _ _ _ _ _ _ _) (kindN t d) (portsI l L t d v q op)
      HLG (Lib.hid HSO)
      (Lib.hid fun w' hb => forward_any most long l (by omega) A ct o k L hL AP c d hd s hs g p v t X q ln op w' (hA.below hb) (hP.below hb) (hm.below hb))
      (Lib.hid fun w' hb => rforward_any most long l (by omega) hsr A ct o k L hL AP c d hd s hs g p v t X q ln op w' (hA.below hb) (hP.below hb))
      (Lib.hid fun C D a b w' hC hD => rsame_self most long _ (by unfold maxLen; omega) C D a b w' hC hD)
      (Lib.hid fun w' hb => kind_any d s g p v t X w' (hm.below hb)) (Lib.hid fun w' _ => rkind_any d hd s g p v t X w')
      (Lib.hid fun w' hb => learns_any most long l (by omega) A ct d s hs g p v t X v q ln w' (hA.below hb)) (Lib.hid fun w' hb => rlearns_any most long l (by omega) hsr A ct d s hs g p v t X v q ln w' (hA.below hb))
      (Lib.hid fun C D a b w' hC hD => rsame_self most long _ (by unfold maxLen; omega) C D a b w' hC hD)
      (Lib.hid fun w' hb => ports_any most long l hl A ct o k L hL AP c d hd s g p v t X v q op w' (hA.below hb) (hP.below hb) (hm.below hb)) (Lib.hid fun w' hb => rports_any most long l hl A ct o k L hL AP c d hd s g p v t X v q op w' (hA.below hb) (hP.below hb)) HAW

end Fwd
namespace LawDecideSays
open Go.ChangeShapes Go.WideShapes Go.ChangeAt Go.RowKit
open Go.ChangeMaps (open_string shut_string)

theorem own : ownKnob Tryd.prog.godebug = none := by kernel_rfl
theorem laidOut : laidOutB Tryd.prog = true := by kernel_rfl
theorem plain : (Rows.decideSaysRow.laid.all fun x => x.2.handleName?.isNone) = true := by kernel_rfl

set_option maxRecDepth 100000 in
theorem lifted (os : Os) (started : os.Started) (H : Type) (enc : TypeId × Value → H) :
    ReturnsInHanded {} Tryd.checked os 3 .any (fun w args => (Rows.decideSaysSpec.pre enc Tryd.prog Tryd.f3 Rows.decideSaysRow.domain false w args ∧ laidMetH Tryd.prog Rows.decideSaysRow.laid w) ∧ sizedMet enc Tryd.prog Tryd.f3 (OpenSpec.ofChange Rows.decideSaysSpec) false w args)
      (Rows.decideSaysSpec.post enc Tryd.prog Tryd.f3 false true false false) := by
  refine Fr.law_lift_laid (C := Tryd.checked) (laid := Rows.decideSaysRow.laid) (tb := 4) own started (by kernel_rfl) Tryd.func3
    (ChangeSpec.witness_shaped (enc := enc) (C := Tryd.checked) (os := os) (X := fun w _ => laidMetH Tryd.prog Rows.decideSaysRow.laid w) false (World.laidAll Tryd.prog os Rows.decideSaysRow.laid) #[.agg #[.int .i64 0, .int .i64 0, .slice none 0 0], .agg #[.int .i64 0, .int .i64 0, .int .i64 0, .int .i64 0, .int .i64 0, .int .i64 0, .int .i64 0, .int .i64 0, .int .i64 0, .int .i64 0, .int .i64 0, .int .i64 0, .int .i64 0, .int .i64 0, .int .i64 0, .int .i64 0, .slice none 0 0, .int .u64 0, .int .u64 0, .bool false, .int .i64 0, .int .i64 0, .int .i64 0, .string ByteArray.empty], .agg #[.int .i64 0, .int .i64 0, .int .i64 0]] 8 (World.laidAll_os _ _ _)
      (World.shaped_of_ZipB (by kernel_rfl) (by kernel_rfl)) (by kernel_rfl) (by kernel_rfl) (by kernel_rfl)
      (by rw [MakeChecks.laidMetH_plain _ _ _ plain]; exact laidMet_laidAll _ (by kernel_rfl) (by kernel_rfl)))
    laidOut (by rw [Tryd.params3]; decide +kernel) rfl Tryd.underlying4 rfl ?_ ?_
  · intro ds hl
    match ds, hl with
    | [d0, d1, d2], _ => rfl
  · intro W base args ds p hsh hL hval hA
    rw [Tryd.params3] at hA hval
    obtain ⟨v0, vs0, d0, ds0, p0, q0, hargs, rfl, rfl, h0, r0⟩ := trodAll_cons hA
    obtain ⟨v1, vs1, d1, ds1, p1, q1, rfl, rfl, rfl, h1, r1⟩ := trodAll_cons r0
    obtain ⟨v2, vs2, d2, ds2, p2, q2, rfl, rfl, rfl, h2, r2⟩ := trodAll_cons r1
    obtain ⟨rfl, rfl, rfl⟩ := trodAll_nil r2
    obtain rfl : args = #[v0, v1, v2] := by cases args; simp_all
    obtain ⟨m0, g0, A0, l0, k0, rfl, hl0, hA0, hw0⟩ := Tab.open_table (hval 0 24 v0 rfl rfl) h0
    obtain ⟨o1, k1, A1, L1, c1, x1, y1, g1, q1, u1, t1, X1, rfl, hL1, hP1, hx1, hy1, hX1⟩ := Fwd.open_case (hval 1 34 v1 rfl rfl) h1
    obtain ⟨a2, b2, c2, rfl⟩ := Fwd.open_way (hval 2 36 v2 rfl rfl) h2
    exact Fwd.walk_says W m0 g0 A0 l0 k0 hl0 hA0 (fun e he => (hw0 e he).2.1) o1 k1 A1 L1 c1 x1 y1 g1 q1 u1 t1 X1 hL1 hP1 hx1 hy1 hX1 a2 b2 c2 (Fwd.home_of hsh hL plain (by simp [Rows.decideSaysRow]))

theorem over : Rows.decideSaysRow.holds Tryd.pinned (OpenSpec.ofChange Rows.decideSaysSpec) :=
  OpenClaim.holds_of_wide 3 Tryd.f3 rfl rfl rfl rfl rfl rfl rfl ⟨rfl, rfl, rfl, rfl, rfl⟩ rfl rfl rfl rfl rfl (by kernel_rfl) Tryd.func3 (by kernel_rfl)
    (of_decide_eq_true (by kernel_rfl)) (by unfold Func.isWrapper; first | (rw [if_pos (by decide +kernel)]; kernel_rfl) | (rw [if_neg (by decide +kernel)]; exact ⟨rfl, rfl⟩))
    (fun os started H enc _ => lifted os started H enc)
end LawDecideSays

/-- The statement DecideSays (the tied card). -/
theorem decideSays_holds : Rows.DecideSaysCardSaid :=
  Claim7.holds_tied_plain_at .later [] _ true _ _ LawDecideSays.over (fun _ h => by cases h) (by kernel_rfl) (fun _ h => by cases h) decideSays_row_tie rfl ⟨rfl, rfl⟩ (by kernel_rfl) rfl
    (fun f fn hf hfn => by
      obtain rfl : f = 3 := Option.some.inj ((show Tryd.prog.funcNamed Rows.decideSaysRow.func = some 3 by kernel_rfl).symm.trans hf) |>.symm
      obtain rfl : fn = Tryd.f3 := (Option.some.inj (Tryd.func3.symm.trans hfn)).symm
      exact ⟨by kernel_rfl, fun j t ht => by
        rw [Tryd.params3] at ht
        have hm : t ∈ [24, 34, 36] := by have := Array.mem_of_getElem? ht; simp at this; simp [this]
        have hall : ([24, 34, 36].all fun u => !Tryd.prog.wantsStandIn u) = true := by kernel_rfl
        exact (show Tryd.prog.wantsStandIn t = false by simpa using List.all_eq_true.1 hall t hm)⟩)
    (by kernel_rfl)

end Go.Proofs.YtmojegnflcokjaaDoor
