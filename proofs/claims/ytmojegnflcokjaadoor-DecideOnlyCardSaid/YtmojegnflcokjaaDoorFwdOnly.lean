/-
  The statement DecideOnly (a tied card): for every list of steps, every plan, every frame and every way, in every memory that holds the table of reserved addresses as the text lays it, the law DecideOnly returns true, and its arguments read afterwards as they read before.
-/
import Derived.Test.YtmojegnflcokjaaDoorFwdOnlB
import Derived.Test.YtmojegnflcokjaaDoorMemG
import Derived.Test.YtmojegnflcokjaaDoorPkTabIn
import Derived.Test.YtmojegnflcokjaaDoorCards
import Derived.Test.YtmojegnflcokjaaDoorTie
import Derived.SevenTiedAt
namespace Go.Proofs.YtmojegnflcokjaaDoor
open Go.RowKit
namespace Fwd
open Oct Eth Tab

/-- What holds of a call that changes nothing. -/
theorem still {P : Program} {f : FuncId} {args : Array Value} {w : World} {v : Ending} (h : Calls P f args w fun e w' => e = v ∧ w = w') : Calls P f args w fun e w' => e = v ∧ Below w.heap.size w w' := h.mono fun _ _ ⟨a, b⟩ => ⟨a, by subst b; exact Bx.bel_refl _⟩

theorem low_none : Por.listI (Por.low 0) 8 = [] := by decide

theorem outs_is (most : Int) (l : List Tab.En) (o k : Nat → Int) (L : List Mem.Vl) (d s : Nat) (g : Bool) (p vv t : Int) (X : ByteArray) (q ln op : Int) :
    fwdO most l o k L d s g p vv t X q ln op = outsL L (Mem.takV o k L q g vv) d s p t X (portsL (fwdL most l o k L d s g vv t q ln) L t d (Mem.takV o k L q g vv) q op) ∧ onB o k L d q g vv t = true ∨ fwdO most l o k L d s g p vv t X q ln op = [] ∧ onB o k L d q g vv t = false := by
  unfold fwdO fwdL
  cases h : onB o k L d q g vv t with
  | true => exact .inl ⟨rfl, rfl⟩
  | false => exact .inr ⟨rfl, rfl⟩

theorem outs_none {most : Int} {l : List Tab.En} {o k : Nat → Int} {L : List Mem.Vl} {d s : Nat} {g : Bool} {p vv t : Int} {X : ByteArray} {q ln op : Int} (h : Mem.takB o k L q g vv = false ∨ ¬ kindN t d = 0 ∨ Por.hasZ (Por.low op) q = false) : fwdO most l o k L d s g p vv t X q ln op = [] := by
  rcases outs_is most l o k L d s g p vv t X q ln op with ⟨e, hb⟩ | ⟨e, _⟩
  · unfold onB at hb
    simp only [Bool.and_eq_true, decide_eq_true_eq] at hb
    rcases h with h | h | h
    · rw [h] at hb; cases hb.1
    · exact absurd hb.2 h
    · rw [e]
      unfold portsL
      rw [ports_none (by rw [h]; simp), low_none]
      rfl
  · exact e

theorem outs_one {most : Int} {l : List Tab.En} {o k : Nat → Int} {L : List Mem.Vl} {d s : Nat} {g : Bool} {p vv t : Int} {X : ByteArray} {q ln op : Int} (h : Tab.isE (fwdL most l o k L d s g vv t q ln) (Mem.takV o k L q g vv) d = true) (hg : Mac.groupB d = false) :
    (fwdO most l o k L d s g p vv t X q ln op).length ≤ 1 ∧ ∀ x ∈ fwdO most l o k L d s g p vv t X q ln op, x.q = (Tab.gotE (fwdL most l o k L d s g vv t q ln) (Mem.takV o k L q g vv) d).p := by
  rcases outs_is most l o k L d s g p vv t X q ln op with ⟨e, _⟩ | ⟨e, _⟩
  · rw [e, outs_len]
    obtain ⟨h1, h2⟩ := ports_one (L := L) (t := t) (q := q) (op := op) h hg
    refine ⟨h1, fun x hx => ?_⟩
    obtain ⟨y, hy, rfl⟩ := List.mem_map.1 hx
    exact h2 y hy
  · rw [e]
    exact ⟨by decide, fun x hx => by cases hx⟩

theorem outs_rise {most : Int} {l : List Tab.En} {o k : Nat → Int} {L : List Mem.Vl} {d s : Nat} {g : Bool} {p vv t : Int} {X : ByteArray} {q ln op : Int} (j : Nat) (h : j + 1 < (fwdO most l o k L d s g p vv t X q ln op).length) : ((fwdO most l o k L d s g p vv t X q ln op)[j]'(Nat.lt_of_succ_lt h)).q < (fwdO most l o k L d s g p vv t X q ln op)[j + 1].q := by
  have e := outs_is most l o k L d s g p vv t X q ln op
  generalize fwdO most l o k L d s g p vv t X q ln op = outs at e h ⊢
  rcases e with ⟨rfl, _⟩ | ⟨rfl, _⟩
  · have h' : j + 1 < (portsL (fwdL most l o k L d s g vv t q ln) L t d (Mem.takV o k L q g vv) q op).length := by rw [outs_len] at h; exact h
    have := list_rise _ j h' (Nat.lt_of_succ_lt h')
    simp only [outsL, List.getElem_map]
    exact this
  · simp at h

theorem outs_num {most : Int} {l : List Tab.En} {o k : Nat → Int} {L : List Mem.Vl} {d s : Nat} {g : Bool} {p vv t : Int} {X : ByteArray} {q ln op : Int} (h1 : Mem.takB o k L q g vv = true) (h2 : kindN t d = 0) (h3 : Por.hasZ (Por.low op) q = true) (h4 : Tab.isE (fwdL most l o k L d s g vv t q ln) (Mem.takV o k L q g vv) d = false) :
    (((Por.listI (Por.low (othersI L (Mem.takV o k L q g vv) op q)) 8).length : Nat) : Int) = (fwdO most l o k L d s g p vv t X q ln op).length := by
  rcases outs_is most l o k L d s g p vv t X q ln op with ⟨e, _⟩ | ⟨_, hb⟩
  · rw [e, outs_len]
    unfold portsL
    rw [ports_all h2 h3 (.inr h4)]
  · unfold onB at hb
    rw [h1, decide_eq_true h2] at hb
    cases hb

theorem outs_all {most : Int} {l : List Tab.En} {o k : Nat → Int} {L : List Mem.Vl} {d s : Nat} {g : Bool} {p vv t : Int} {X : ByteArray} {q ln op : Int} : ∀ x ∈ fwdO most l o k L d s g p vv t X q ln op, ¬ x.q = q ∧ Por.hasZ (Por.low op) x.q = true ∧ Por.hasZ (Por.low (Mem.ofV L (Mem.takV o k L q g vv))) x.q = true ∧ x.f.b = X ∧ x.f.d = d ∧ (x.f.g = true → x.f.v = Mem.takV o k L q g vv) := by
  rcases outs_is most l o k L d s g p vv t X q ln op with ⟨e, _⟩ | ⟨e, _⟩
  · rw [e]
    intro x hx
    obtain ⟨y, hy, rfl⟩ := List.mem_map.1 hx
    obtain ⟨h1, h2, h3, h4⟩ := mem_ports hy
    obtain ⟨h5, h6, h7⟩ := sent_is (d := d) (s := s) (p := p) (t := t) (b := X) h4
    exact ⟨h1, h3, h2, h6, h5, h7⟩
  · rw [e]
    intro x hx
    cases hx

theorem outs_eight (most : Int) (l : List Tab.En) (o k : Nat → Int) (L : List Mem.Vl) (d s : Nat) (g : Bool) (p vv t : Int) (X : ByteArray) (q ln op : Int) : (fwdO most l o k L d s g p vv t X q ln op).length ≤ 8 := by
  rcases outs_is most l o k L d s g p vv t X q ln op with ⟨e, _⟩ | ⟨e, _⟩
  · rw [e, outs_len]; exact portsL_len _ _ _ _ _ _ _
  · rw [e]; decide

theorem tail_of (w : World) (o k : Nat → Int) (AP : Option Addr) (L : List Mem.Vl) (c : Nat) (d s : Nat) (g : Bool) (p v t : Int) (X : ByteArray) (hL : L.length ≤ maxLen) (hP : Mem.Vls w AP L) (hd : d < 18446744073709551616) (hs : s < 18446744073709551616) (q ln op : Int) (hm : Home w) (l : List Tab.En) (HV : Tab.Inv 6 9 l) :
    ∃ l2 outs V tk K hO hLn e there gp F O N, Tail w o k AP L.length c d s g p v t X q ln op l l2 outs V tk K hO hLn e there gp F O N := by
  have hll : l.length ≤ 6 := by have := HV.snd.len; omega
  have hlm : l.length ≤ maxLen := by unfold maxLen; omega
  have HV2 : Tab.Inv 6 9 (fwdL 6 l o k L d s g v t q ln) := by
    unfold fwdL
    split
    · unfold learnsL
      split
      · exact HV.learn (by decide) _ s hs q
      · exact HV
    · exact HV
  have hl2 : (fwdL 6 l o k L d s g v t q ln).length ≤ maxLen := by have := HV2.snd.len; unfold maxLen; omega
  refine ⟨fwdL 6 l o k L d s g v t q ln, fwdO 6 l o k L d s g p v t X q ln op, Mem.takV o k L q g v, Mem.takB o k L q g v, kindN t d, Por.hasZ (Por.low op) q, Por.hasZ (Por.low ln) q, Tab.gotE (fwdL 6 l o k L d s g v t q ln) (Mem.takV o k L q g v) d, Tab.isE (fwdL 6 l o k L d s g v t q ln) (Mem.takV o k L q g v) d, Mac.groupB d, Mem.ofV L (Mem.takV o k L q g v), othersI L (Mem.takV o k L q g v) op q, ((Por.listI (Por.low (othersI L (Mem.takV o k L q g v) op q)) 8).length : Nat), ?_⟩
  exact
    { fw := fun A a w' hb hE => forward_any 6 9 l (by omega) A a o k L hL AP c d hd s hs g p v t X q ln op w' hE (hP.below hb) (hm.below hb)
      tks := fun w' hb => Mem.takes_any o k L hL AP c q d s g p v t X w' (hP.below hb)
      kd := fun w' hb => kind_any d s g p v t X w' (hm.below hb)
      ho := fun w' _ => still (Por.has_any op q w')
      hl := fun w' _ => still (Por.has_any ln q w')
      sn := fun A a w' hE => by
        have := Tab.sound_any 6 9 _ hl2 HV2.mac A a w' hE
        rwa [HV2.snd.b] at this
      sm := fun h => by
        unfold fwdL learnsL
        rw [h]
        simp
      same := fun A B a b w' hA hB => by
        have := Tab.same_any 6 9 6 9 l l hlm hlm A B a b w' hA hB
        rwa [decide_eq_true ⟨rfl, rfl, rfl⟩] at this
      fi := fun A a w' hE => Tab.find_any 6 9 _ hl2 _ d A a w' hE
      gr := fun w' => Mac.group_any d hd w'
      none := outs_none
      one := outs_one
      of := fun w' hb => Mem.of_any o k L hL AP c _ w' (hP.below hb)
      all := fun x hx => by
        obtain ⟨h1, h2, h3, h4, h5, h6⟩ := outs_all x hx
        refine ⟨h1, fun w' _ => ?_, fun w' _ => ?_, h4, h5, h6⟩
        · have := still (Por.has_any op x.q w')
          rwa [h2] at this
        · have := still (Por.has_any (Mem.ofV L (Mem.takV o k L q g v)) x.q w')
          rwa [h3] at this
      rise := outs_rise
      wo := fun w' _ => still (Por.without_any (bits .and .i64 (Mem.ofV L (Mem.takV o k L q g v)) op) q w')
      co := fun w' _ => still (Por.count_any (othersI L (Mem.takV o k L q g v) op q) w')
      num := outs_num
      len8 := outs_eight _ _ _ _ _ _ _ _ _ _ _ _ _ _ _ }

theorem walk_only (w : World) (A0 : Option Addr) (Lo : List Tab.Ev) (c0 : Nat) (hlo : Lo.length ≤ maxLen) (hA : Tab.Ops w A0 Lo) (hmo : ∀ o ∈ Lo, o.m < 18446744073709551616) (o k : Nat → Int) (AP : Option Addr) (L : List Mem.Vl) (c : Nat) (d s : Nat) (g : Bool) (p v t : Int) (X : ByteArray) (hL : L.length ≤ maxLen) (hP : Mem.Vls w AP L) (hd : d < 18446744073709551616) (hs : s < 18446744073709551616) (_hX : X.size ≤ maxLen) (q ln op : Int) (hm : Home w) :
    Calls Tryd.prog 4 #[.slice A0 Lo.length c0, xv o k AP L.length c d s g p v t X, .agg #[.int .i64 q, .int .i64 ln, .int .i64 op]] w fun e w' => e = .returned (.bool true) ∧ Below w.heap.size w w' := by
  have HLG := fun w' (_ : Below w.heap.size w w') => Mem.long_any o k AP L.length hL c w'
  have HRI := fun w' (hb : Below w.heap.size w w') => Mem.right_any o k L hL AP c w' (hP.below hb)
  have HAW := Lib.hid (fun w' (hb : Below w.heap.size w w') => awake_any w' (hm.below hb))
  by_cases h1 : 100 < L.length
  · rw [decide_eq_true h1] at HLG
    exact only_long Lo hlo A0 c0 o k AP L.length c d s g p v t X q ln op w (Lib.hid HLG) HAW
  rw [decide_eq_false h1] at HLG
  replace HLG := Lib.hid HLG
  cases hr : Mem.rightP o k L with
  | false =>
    rw [hr] at HRI
    exact only_right Lo hlo A0 c0 o k AP L.length c d s g p v t X q ln op w HLG (Lib.hid HRI) HAW
  | true =>
    rw [hr] at HRI
    replace HRI := Lib.hid HRI
    by_cases h2 : (60 : Int) < Lo.length
    · exact only_ops Lo hlo A0 c0 o k AP L.length c d s g p v t X q ln op w h2 HLG HRI HAW
    by_cases h3 : 12000 < X.size
    · exact only_body Lo hlo A0 c0 o k AP L.length c d s g p v t X q ln op w h2 h3 HLG HRI HAW
    have HTL := fun l HV => tail_of w o k AP L c d s g p v t X hL hP hd hs q ln op hm l HV
    exact only_all Lo hlo A0 c0 o k AP L.length c d s g p v t X q ln op w h2 h3 hA hmo HLG HRI (Lib.hid fun w' => Tab.new_any 6 9 w') (Lib.hid HTL) HAW

end Fwd
namespace LawDecideOnly
open Go.ChangeShapes Go.WideShapes Go.ChangeAt Go.RowKit
open Go.ChangeMaps (open_string shut_string)

theorem own : ownKnob Tryd.prog.godebug = none := by kernel_rfl
theorem laidOut : laidOutB Tryd.prog = true := by kernel_rfl
theorem plain : (Rows.decideOnlyRow.laid.all fun x => x.2.handleName?.isNone) = true := by kernel_rfl

set_option maxRecDepth 100000 in
theorem lifted (os : Os) (started : os.Started) (H : Type) (enc : TypeId × Value → H) :
    ReturnsInHanded {} Tryd.checked os 4 .any (fun w args => (Rows.decideOnlySpec.pre enc Tryd.prog Tryd.f4 Rows.decideOnlyRow.domain false w args ∧ laidMetH Tryd.prog Rows.decideOnlyRow.laid w) ∧ sizedMet enc Tryd.prog Tryd.f4 (OpenSpec.ofChange Rows.decideOnlySpec) false w args)
      (Rows.decideOnlySpec.post enc Tryd.prog Tryd.f4 false true false false) := by
  refine Fr.law_lift_laid (C := Tryd.checked) (laid := Rows.decideOnlyRow.laid) (tb := 4) own started (by kernel_rfl) Tryd.func4
    (ChangeSpec.witness_shaped (enc := enc) (C := Tryd.checked) (os := os) (X := fun w _ => laidMetH Tryd.prog Rows.decideOnlyRow.laid w) false (World.laidAll Tryd.prog os Rows.decideOnlyRow.laid) #[.slice none 0 0, .agg #[.int .i64 0, .int .i64 0, .int .i64 0, .int .i64 0, .int .i64 0, .int .i64 0, .int .i64 0, .int .i64 0, .int .i64 0, .int .i64 0, .int .i64 0, .int .i64 0, .int .i64 0, .int .i64 0, .int .i64 0, .int .i64 0, .slice none 0 0, .int .u64 0, .int .u64 0, .bool false, .int .i64 0, .int .i64 0, .int .i64 0, .string ByteArray.empty], .agg #[.int .i64 0, .int .i64 0, .int .i64 0]] 8 (World.laidAll_os _ _ _)
      (World.shaped_of_ZipB (by kernel_rfl) (by kernel_rfl)) (by kernel_rfl) (by kernel_rfl) (by kernel_rfl)
      (by rw [MakeChecks.laidMetH_plain _ _ _ plain]; exact laidMet_laidAll _ (by kernel_rfl) (by kernel_rfl)))
    laidOut (by rw [Tryd.params4]; decide +kernel) rfl Tryd.underlying4 rfl ?_ ?_
  · intro ds hl
    match ds, hl with
    | [d0, d1, d2], _ => rfl
  · intro W base args ds p hsh hL hval hA
    rw [Tryd.params4] at hA hval
    obtain ⟨v0, vs0, d0, ds0, p0, q0, hargs, rfl, rfl, h0, r0⟩ := trodAll_cons hA
    obtain ⟨v1, vs1, d1, ds1, p1, q1, rfl, rfl, rfl, h1, r1⟩ := trodAll_cons r0
    obtain ⟨v2, vs2, d2, ds2, p2, q2, rfl, rfl, rfl, h2, r2⟩ := trodAll_cons r1
    obtain ⟨rfl, rfl, rfl⟩ := trodAll_nil r2
    obtain rfl : args = #[v0, v1, v2] := by cases args; simp_all
    obtain ⟨A0, l0, c0, rfl, hl0, hA0, hm0⟩ := Tab.open_ops (hval 0 50 v0 rfl rfl) h0
    obtain ⟨o1, k1, A1, L1, c1, x1, y1, g1, q1, u1, t1, X1, rfl, hL1, hP1, hx1, hy1, hX1⟩ := Fwd.open_case (hval 1 34 v1 rfl rfl) h1
    obtain ⟨a2, b2, c2, rfl⟩ := Fwd.open_way (hval 2 36 v2 rfl rfl) h2
    exact Fwd.walk_only W A0 l0 c0 hl0 hA0 hm0 o1 k1 A1 L1 c1 x1 y1 g1 q1 u1 t1 X1 hL1 hP1 hx1 hy1 hX1 a2 b2 c2 (Fwd.home_of hsh hL plain (by simp [Rows.decideOnlyRow]))

theorem over : Rows.decideOnlyRow.holds Tryd.pinned (OpenSpec.ofChange Rows.decideOnlySpec) :=
  OpenClaim.holds_of_wide 4 Tryd.f4 rfl rfl rfl rfl rfl rfl rfl ⟨rfl, rfl, rfl, rfl, rfl⟩ rfl rfl rfl rfl rfl (by kernel_rfl) Tryd.func4 (by kernel_rfl)
    (of_decide_eq_true (by kernel_rfl)) (by unfold Func.isWrapper; first | (rw [if_pos (by decide +kernel)]; kernel_rfl) | (rw [if_neg (by decide +kernel)]; exact ⟨rfl, rfl⟩))
    (fun os started H enc _ => lifted os started H enc)
end LawDecideOnly

/-- The statement DecideOnly (the tied card). -/
theorem decideOnly_holds : Rows.DecideOnlyCardSaid :=
  Claim7.holds_tied_plain_at .later [] _ true _ _ LawDecideOnly.over (fun _ h => by cases h) (by kernel_rfl) (fun _ h => by cases h) decideOnly_row_tie rfl ⟨rfl, rfl⟩ (by kernel_rfl) rfl
    (fun f fn hf hfn => by
      obtain rfl : f = 4 := Option.some.inj ((show Tryd.prog.funcNamed Rows.decideOnlyRow.func = some 4 by kernel_rfl).symm.trans hf) |>.symm
      obtain rfl : fn = Tryd.f4 := (Option.some.inj (Tryd.func4.symm.trans hfn)).symm
      exact ⟨by kernel_rfl, fun j t ht => by
        rw [Tryd.params4] at ht
        have hm : t ∈ [50, 34, 36] := by have := Array.mem_of_getElem? ht; simp at this; simp [this]
        have hall : ([50, 34, 36].all fun u => !Tryd.prog.wantsStandIn u) = true := by kernel_rfl
        exact (show Tryd.prog.wantsStandIn t = false by simpa using List.all_eq_true.1 hall t hm)⟩)
    (by kernel_rfl)

end Go.Proofs.YtmojegnflcokjaaDoor
