/-
  The statement MemberKeeps: for every plan, every frame and every three numbers the law MemberKeeps returns true, and its arguments read afterwards as they read before.
-/
import Derived.Test.YtbighadkcmhplaaMemKeepsT
import Derived.Test.YtbighadkcmhplaaMemKeepsF
import Derived.Test.YtbighadkcmhplaaMemOpen
import Derived.Test.YtbighadkcmhplaaEthOpen
import Derived.Test.YtbighadkcmhplaaFrame
import Derived.Test.YtbighadkcmhplaaRows
namespace Go.Proofs.Ytbighadkcmhplaa
open Go.RowKit
namespace Mem
open Oct Eth

theorem snd_fr (l : List Vl) (n q d s p t : Int) (b : ByteArray) : ∃ (d2 s2 : Int) (g2 : Bool) (p2 v2 t2 : Int) (X2 : ByteArray), sndF l n q d s p t b = fr d2 s2 g2 p2 v2 t2 X2 := by
  unfold sndF
  split
  · exact ⟨_, _, _, _, _, _, _, rfl⟩
  · split
    · exact ⟨_, _, _, _, _, _, _, rfl⟩
    · exact ⟨_, _, _, _, _, _, _, rfl⟩

theorem open_three {H : Type} {enc : TypeId × Value → H} {W : World} {base b0 : Nat} {spare : Nat → Bool} {held : Bool} {r : Reach} {v : Value} {d : DataW H} {p : List MemPlace}
    (hv : Value.okWide Try.prog W r b0 45 v) (h : DataW.Trod enc Try.prog W base spare held 45 v d p) : ∃ i k n : Int, v = .agg #[.int .i64 i, .int .i64 k, .int .i64 n] := by
  obtain ⟨zs, rfl, hz, _⟩ := Fr.open_arr Try.underlying45 Try.underlying3 (by kernel_rfl) (by kernel_rfl) hv h
  obtain ⟨a, b, c, rfl⟩ := Fr.three hz
  exact ⟨a, b, c, rfl⟩

theorem walk_keeps (w : World) (o k : Nat → Int) (A : Option Addr) (l : List Vl) (c : Nat) (hl : l.length ≤ maxLen) (hA : Vls w A l) (d s : Nat) (g : Bool) (p v t : Int) (X : ByteArray) (_hd : d < 18446744073709551616) (_hs : s < 18446744073709551616) (_hX : X.size ≤ maxLen) (a b m : Int) :
    Calls Try.prog 4 #[pv o k A l.length c, fr d s g p v t X, .agg #[.int .i64 a, .int .i64 b, .int .i64 m]] w fun e w' => e = .returned (.bool true) ∧ Below w.heap.size w w' := by
  have HL := fun w' (_ : Below w.heap.size w w') => long_any o k A l.length hl c w'
  have HR := fun w' (hb : Below w.heap.size w w') => right_any o k l hl A c w' (hA.below hb)
  by_cases h : 100 < l.length
  · rw [decide_eq_true h] at HL
    exact keeps_big1 o k A l.length c d s g p v t X a b m w (Lib.hid HL)
  rw [decide_eq_false h] at HL
  cases hr : rightP o k l with
  | false =>
    rw [hr] at HR
    exact keeps_big2 o k A l.length c d s g p v t X a b m w (Lib.hid HL) (Lib.hid HR)
  | true =>
    rw [hr] at HR
    by_cases hX : 12000 < X.size
    · exact keeps_big3 o k A l.length c d s g p v t X a b m w hX (Lib.hid HL) (Lib.hid HR)
    have hX12 : X.size ≤ 12000 := by omega
    obtain ⟨q, hq8, hqa⟩ := rem_eight a
    obtain ⟨to, h8, hqb⟩ := rem_eight b
    replace HL := Lib.hid HL
    replace HR := Lib.hid HR
    have HT := fun w' (hb : Below w.heap.size w w') => takes_any o k l hl A c q d s g p v t X w' (hA.below hb)
    have HS := fun w' (hb : Below w.heap.size w w') => sends_any o k l hl A c q m d s g p v t X w' (hA.below hb)
    have HO2 := Lib.hid fun w' (hb : Below w.heap.size w w') => of_any o k l hl A c m w' (hA.below hb)
    have HH2 := fun w => Por.has_any (ofV l m) q w
    cases ht : takB o k l q g v with
    | true =>
      rw [ht] at HT
      obtain ⟨hof, h1⟩ := taken_of hr hq8 ht
      have HO1 := Lib.hid fun w' (hb : Below w.heap.size w w') => of_any o k l hl A c (takV o k l q g v) w' (hA.below hb)
      have HH1 := fun w => Por.has_any (ofV l (takV o k l q g v)) q w
      rw [hof] at HH1
      replace HH1 := Lib.hid HH1
      have hT1 : ¬ takV o k l q g v < 1 := by omega
      replace HT := Lib.hid HT
      cases hsT : sndT l m q with
      | true =>
        have hs : sndB l m q = true := by unfold sndB; rw [hsT]; rfl
        have hm := right_found hr hs
        have hvid : vidF (o to) true m = m := if_pos ⟨rfl, by omega⟩
        have eF : sndF l m q d s p t X = fr d s true p m t X := by unfold sndF; rw [hsT]; rfl
        rw [hs, eF] at HS
        rw [snd_of, hs] at HH2
        replace HS := Lib.hid HS
        replace HH2 := Lib.hid HH2
        have HT3 := fun w' (hb : Below w.heap.size w w') => takes_any o k l hl A c to d s true p m t X w' (hA.below hb)
        cases ht3 : takB o k l to true m with
        | true =>
          rw [ht3, (sent_taken hm h8 hvid).1 ht3] at HT3
          replace HT3 := Lib.hid HT3
          exact keeps_t_tag_is o k A l.length c d s g p v t X a b m q to _ _ _ w hX12 hqa hqb h8 hT1 HL HR HT HO1 HH1 HS HO2 HH2 HT3
        | false =>
          rw [ht3] at HT3
          replace HT3 := Lib.hid HT3
          by_cases hk : k to = 0
          · have HH3 := fun w => Por.has_any (ofV l m) to w
            rw [(sent_taken hm h8 hvid).2 ht3 hk] at HH3
            exact keeps_t_tag_k0 o k A l.length c d s g p v t X a b m q to _ _ _ _ w hX12 hqa hqb h8 hT1 hk HL HR HT HO1 HH1 HS HO2 HH2 HT3 (Lib.hid HH3)
          · exact keeps_t_tag_kn o k A l.length c d s g p v t X a b m q to _ _ _ _ w hX12 hqa hqb h8 hT1 hk HL HR HT HO1 HH1 HS HO2 HH2 HT3
      | false =>
        cases hsU : sndU l m q with
        | true =>
          have hs : sndB l m q = true := by unfold sndB; rw [hsT, hsU]; rfl
          have hm := right_found hr hs
          have eF : sndF l m q d s p t X = fr d s false 0 0 t X := by unfold sndF; rw [hsT, hsU]; rfl
          rw [hs, eF] at HS
          rw [snd_of, hs] at HH2
          replace HS := Lib.hid HS
          replace HH2 := Lib.hid HH2
          by_cases ho : o to = m
          · have hvid : vidF (o to) false 0 = m := (if_neg (by simp)).trans ho
            have HT3 := fun w' (hb : Below w.heap.size w w') => takes_any o k l hl A c to d s false 0 0 t X w' (hA.below hb)
            cases ht3 : takB o k l to false 0 with
            | true =>
              rw [ht3, (sent_taken hm h8 hvid).1 ht3] at HT3
              replace HT3 := Lib.hid HT3
              exact keeps_t_eq_is o k A l.length c d s g p v t X a b m q to _ _ _ w hX12 hqa hqb h8 hT1 ho HL HR HT HO1 HH1 HS HO2 HH2 HT3
            | false =>
              rw [ht3] at HT3
              replace HT3 := Lib.hid HT3
              by_cases hk : k to = 0
              · have HH3 := fun w => Por.has_any (ofV l m) to w
                rw [(sent_taken hm h8 hvid).2 ht3 hk] at HH3
                exact keeps_t_eq_k0 o k A l.length c d s g p v t X a b m q to _ _ _ _ w hX12 hqa hqb h8 hT1 ho hk HL HR HT HO1 HH1 HS HO2 HH2 HT3 (Lib.hid HH3)
              · exact keeps_t_eq_kn o k A l.length c d s g p v t X a b m q to _ _ _ _ w hX12 hqa hqb h8 hT1 ho hk HL HR HT HO1 HH1 HS HO2 HH2 HT3
          · exact keeps_t_ne o k A l.length c d s g p v t X a b m q to _ _ _ w hX12 hqa hqb h8 hT1 ho HL HR HT HO1 HH1 HS HO2 HH2
        | false =>
          have hs : sndB l m q = false := by unfold sndB; rw [hsT, hsU]; rfl
          obtain ⟨d2, s2, g2, p2, v2, t2, X2, hF⟩ := snd_fr l m q d s p t X
          rw [hs, hF] at HS
          rw [snd_of, hs] at HH2
          replace HS := Lib.hid HS
          replace HH2 := Lib.hid HH2
          exact keeps_t_no o k A l.length c d s g p v t X a b m q to _ _ _ d2 s2 g2 p2 v2 t2 X2 w hX12 hqa hqb h8 hT1 HL HR HT HO1 HH1 HS HO2 HH2
    | false =>
      rw [ht] at HT
      replace HT := Lib.hid HT
      cases hsT : sndT l m q with
      | true =>
        have hs : sndB l m q = true := by unfold sndB; rw [hsT]; rfl
        have hm := right_found hr hs
        have hvid : vidF (o to) true m = m := if_pos ⟨rfl, by omega⟩
        have eF : sndF l m q d s p t X = fr d s true p m t X := by unfold sndF; rw [hsT]; rfl
        rw [hs, eF] at HS
        rw [snd_of, hs] at HH2
        replace HS := Lib.hid HS
        replace HH2 := Lib.hid HH2
        have HT3 := fun w' (hb : Below w.heap.size w w') => takes_any o k l hl A c to d s true p m t X w' (hA.below hb)
        cases ht3 : takB o k l to true m with
        | true =>
          rw [ht3, (sent_taken hm h8 hvid).1 ht3] at HT3
          replace HT3 := Lib.hid HT3
          exact keeps_f_tag_is o k A l.length c d s g p v t X a b m q to _ _ w hX12 hqa hqb h8 HL HR HT HS HO2 HH2 HT3
        | false =>
          rw [ht3] at HT3
          replace HT3 := Lib.hid HT3
          by_cases hk : k to = 0
          · have HH3 := fun w => Por.has_any (ofV l m) to w
            rw [(sent_taken hm h8 hvid).2 ht3 hk] at HH3
            exact keeps_f_tag_k0 o k A l.length c d s g p v t X a b m q to _ _ _ w hX12 hqa hqb h8 hk HL HR HT HS HO2 HH2 HT3 (Lib.hid HH3)
          · exact keeps_f_tag_kn o k A l.length c d s g p v t X a b m q to _ _ _ w hX12 hqa hqb h8 hk HL HR HT HS HO2 HH2 HT3
      | false =>
        cases hsU : sndU l m q with
        | true =>
          have hs : sndB l m q = true := by unfold sndB; rw [hsT, hsU]; rfl
          have hm := right_found hr hs
          have eF : sndF l m q d s p t X = fr d s false 0 0 t X := by unfold sndF; rw [hsT, hsU]; rfl
          rw [hs, eF] at HS
          rw [snd_of, hs] at HH2
          replace HS := Lib.hid HS
          replace HH2 := Lib.hid HH2
          by_cases ho : o to = m
          · have hvid : vidF (o to) false 0 = m := (if_neg (by simp)).trans ho
            have HT3 := fun w' (hb : Below w.heap.size w w') => takes_any o k l hl A c to d s false 0 0 t X w' (hA.below hb)
            cases ht3 : takB o k l to false 0 with
            | true =>
              rw [ht3, (sent_taken hm h8 hvid).1 ht3] at HT3
              replace HT3 := Lib.hid HT3
              exact keeps_f_eq_is o k A l.length c d s g p v t X a b m q to _ _ w hX12 hqa hqb h8 ho HL HR HT HS HO2 HH2 HT3
            | false =>
              rw [ht3] at HT3
              replace HT3 := Lib.hid HT3
              by_cases hk : k to = 0
              · have HH3 := fun w => Por.has_any (ofV l m) to w
                rw [(sent_taken hm h8 hvid).2 ht3 hk] at HH3
                exact keeps_f_eq_k0 o k A l.length c d s g p v t X a b m q to _ _ _ w hX12 hqa hqb h8 ho hk HL HR HT HS HO2 HH2 HT3 (Lib.hid HH3)
              · exact keeps_f_eq_kn o k A l.length c d s g p v t X a b m q to _ _ _ w hX12 hqa hqb h8 ho hk HL HR HT HS HO2 HH2 HT3
          · exact keeps_f_ne o k A l.length c d s g p v t X a b m q to _ _ w hX12 hqa hqb h8 ho HL HR HT HS HO2 HH2
        | false =>
          have hs : sndB l m q = false := by unfold sndB; rw [hsT, hsU]; rfl
          obtain ⟨d2, s2, g2, p2, v2, t2, X2, hF⟩ := snd_fr l m q d s p t X
          rw [hs, hF] at HS
          rw [snd_of, hs] at HH2
          replace HS := Lib.hid HS
          replace HH2 := Lib.hid HH2
          exact keeps_f_no o k A l.length c d s g p v t X a b m q to _ _ d2 s2 g2 p2 v2 t2 X2 w hX12 hqa hqb h8 HL HR HT HS HO2 HH2

end Mem
namespace LawMemberKeeps
open Go.ChangeShapes Go.WideShapes Go.ChangeAt Go.RowKit
open Go.ChangeMaps (open_string shut_string)

theorem own : ownKnob Try.prog.godebug = none := by kernel_rfl
theorem laidOut : laidOutB Try.prog = true := by kernel_rfl

set_option maxRecDepth 100000 in
theorem lifted (os : Os) (started : os.Started) (H : Type) (enc : TypeId × Value → H) :
    ReturnsInHanded {} Try.checked os 4 .any (Rows.memberKeepsSpec.pre6 enc Try.prog Try.f4 Rows.memberKeepsRow.domain false) (Rows.memberKeepsSpec.post enc Try.prog Try.f4 false true false false) := by
  refine Fr.law_lift (C := Try.checked) (tb := 4) own started (by kernel_rfl) Try.func4
    (ChangeSpec.witness6 (enc := enc) (C := Try.checked) false ⟨#[], #[.agg #[.int .i64 0, .int .i64 0, .int .i64 0, .int .i64 0, .int .i64 0, .int .i64 0, .int .i64 0, .int .i64 0, .int .i64 0, .int .i64 0, .int .i64 0, .int .i64 0, .int .i64 0, .int .i64 0, .int .i64 0, .int .i64 0, .slice none 0 0], .agg #[.int .u64 0, .int .u64 0, .bool false, .int .i64 0, .int .i64 0, .int .i64 0, .string ByteArray.empty], .agg #[.int .i64 0, .int .i64 0, .int .i64 0]], []⟩ 8 (by kernel_rfl) (by kernel_rfl) (by kernel_rfl) (by kernel_rfl))
    laidOut (by rw [Try.params4]; decide +kernel) rfl Try.underlying4 rfl ?_ ?_
  · intro ds hl
    match ds, hl with
    | [d0, d1, d2], _ => rfl
  · intro W base args ds p hval hA
    rw [Try.params4] at hA hval
    obtain ⟨v0, vs0, d0, ds0, p0, q0, hargs, rfl, rfl, h0, r0⟩ := trodAll_cons hA
    obtain ⟨v1, vs1, d1, ds1, p1, q1, rfl, rfl, rfl, h1, r1⟩ := trodAll_cons r0
    obtain ⟨v2, vs2, d2, ds2, p2, q2, rfl, rfl, rfl, h2, r2⟩ := trodAll_cons r1
    obtain ⟨rfl, rfl, rfl⟩ := trodAll_nil r2
    obtain rfl : args = #[v0, v1, v2] := by cases args; simp_all
    obtain ⟨o0, k0, A0, l0, c0, rfl, hl0, hA0⟩ := Mem.open_plan (hval 0 25 v0 rfl rfl) h0
    obtain ⟨x1, y1, g1, q1, u1, t1, b1, rfl, hx1, hy1, hb1⟩ := Eth.open_frame (hval 1 29 v1 rfl rfl) h1
    obtain ⟨i2, k2, n2, rfl⟩ := Mem.open_three (hval 2 45 v2 rfl rfl) h2
    exact Mem.walk_keeps W o0 k0 A0 l0 c0 hl0 hA0 x1 y1 g1 q1 u1 t1 b1 hx1 hy1 hb1 i2 k2 n2

theorem over : Rows.memberKeepsRow.holds Try.pinned (OpenSpec.ofChange Rows.memberKeepsSpec) :=
  OpenClaim.holds_of_wide 4 Try.f4 rfl rfl rfl rfl rfl rfl rfl ⟨rfl, rfl, rfl, rfl, rfl⟩ rfl rfl rfl rfl rfl (by kernel_rfl) Try.func4 (by kernel_rfl)
    (of_decide_eq_true (by kernel_rfl)) (by unfold Func.isWrapper; first | (rw [if_pos (by decide +kernel)]; kernel_rfl) | (rw [if_neg (by decide +kernel)]; exact ⟨rfl, rfl⟩))
    (fun os started H enc _ => lifted os started H enc)
end LawMemberKeeps

/-- The statement MemberKeeps. -/
theorem memberKeeps_holds : Rows.MemberKeepsSaid := LawMemberKeeps.over

end Go.Proofs.Ytbighadkcmhplaa
