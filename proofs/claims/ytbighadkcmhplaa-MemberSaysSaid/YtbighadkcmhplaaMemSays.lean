/-
  The statement MemberSays: for every plan, every frame and every two numbers the law MemberSays returns true, and its arguments read afterwards as they read before.
-/
import Derived.Test.YtbighadkcmhplaaMemSaysA
import Derived.Test.YtbighadkcmhplaaMemOpen
import Derived.Test.YtbighadkcmhplaaEthOpen
import Derived.Test.YtbighadkcmhplaaFrame
import Derived.Test.YtbighadkcmhplaaRows
namespace Go.Proofs.Ytbighadkcmhplaa
open Go.RowKit
namespace Mem
open Oct Eth

theorem snd_fr (l : List Vl) (n q d s p t : Int) (b : ByteArray) : ∃ (d2 s2 : Int) (g2 : Bool) (p2 v2 t2 : Int) (X2 : ByteArray), sndF l n q d s p t b = fr d2 s2 g2 p2 v2 t2 X2 := by
  unfold sndF
  split
  · exact ⟨_, _, _, _, _, _, _, rfl⟩
  · split
    · exact ⟨_, _, _, _, _, _, _, rfl⟩
    · exact ⟨_, _, _, _, _, _, _, rfl⟩

theorem walk_says (w : World) (o k : Nat → Int) (A : Option Addr) (l : List Vl) (c : Nat) (hl : l.length ≤ maxLen) (hA : Vls w A l) (d s : Nat) (g : Bool) (p v t : Int) (X : ByteArray) (_hd : d < 18446744073709551616) (_hs : s < 18446744073709551616) (_hX : X.size ≤ maxLen) (a b : Int) (_wa : (Lit.int .i64 a).wf = true) (_wb : (Lit.int .i64 b).wf = true) :
    Calls Try.prog 3 #[pv o k A l.length c, fr d s g p v t X, .agg #[.int .i64 a, .int .i64 b]] w fun e w' => e = .returned (.bool true) ∧ Below w.heap.size w w' := by
  by_cases h : 100 < l.length
  · exact says_big1 o k A l.length c d s g p v t X a b hl w h
  by_cases hX : 12000 < X.size
  · exact says_big2 o k A l.length c d s g p v t X a b hl w h hX
  have HL := fun w => long_any o k A l.length hl c w
  rw [decide_eq_false h] at HL
  obtain ⟨d2, s2, g2, p2, v2, t2, X2, hF⟩ := snd_fr l b a d s p t X
  have HS := fun w hA => sends_any o k l hl A c a b d s g p v t X w hA
  have HS2 := fun w hA => rsends_any o k l hl A c a b d s g p v t X w hA
  rw [hF] at HS HS2
  exact says_all o k A l.length c d s g p v t X a b _ _ _ d2 s2 g2 p2 v2 t2 X2 _ _ _ _ _ _ w (by omega)
    (Lib.hid fun w' _ => HL w')
    (Lib.hid fun w' hb => takes_any o k l hl A c a d s g p v t X w' (hA.below hb)) (Lib.hid fun w' hb => rtakes_any o k l hl A c a d s g p v t X w' (hA.below hb))
    (Lib.hid fun w' hb => HS w' (hA.below hb)) (Lib.hid fun w' hb => HS2 w' (hA.below hb))
    (Lib.hid fun w' hb => find_any o k l hl A c b w' (hA.below hb)) (Lib.hid fun w' hb => rfind_any o k l hl A c b w' (hA.below hb))
    (Lib.hid fun w' hb => right_any o k l hl A c w' (hA.below hb)) (Lib.hid fun w' hb => rright_any o k l hl A c w' (hA.below hb))
    (Lib.hid fun w' hb => of_any o k l hl A c b w' (hA.below hb)) (Lib.hid fun w' hb => rof_any o k l hl A c b w' (hA.below hb))

end Mem
namespace LawMemberSays
open Go.ChangeShapes Go.WideShapes Go.ChangeAt Go.RowKit
open Go.ChangeMaps (open_string shut_string)

theorem own : ownKnob Try.prog.godebug = none := by kernel_rfl
theorem laidOut : laidOutB Try.prog = true := by kernel_rfl

set_option maxRecDepth 100000 in
theorem lifted (os : Os) (started : os.Started) (H : Type) (enc : TypeId × Value → H) :
    ReturnsInHanded {} Try.checked os 3 .any (Rows.memberSaysSpec.pre6 enc Try.prog Try.f3 Rows.memberSaysRow.domain false) (Rows.memberSaysSpec.post enc Try.prog Try.f3 false true false false) := by
  refine Fr.law_lift (C := Try.checked) (tb := 4) own started (by kernel_rfl) Try.func3
    (ChangeSpec.witness6 (enc := enc) (C := Try.checked) false ⟨#[], #[.agg #[.int .i64 0, .int .i64 0, .int .i64 0, .int .i64 0, .int .i64 0, .int .i64 0, .int .i64 0, .int .i64 0, .int .i64 0, .int .i64 0, .int .i64 0, .int .i64 0, .int .i64 0, .int .i64 0, .int .i64 0, .int .i64 0, .slice none 0 0], .agg #[.int .u64 0, .int .u64 0, .bool false, .int .i64 0, .int .i64 0, .int .i64 0, .string ByteArray.empty], .agg #[.int .i64 0, .int .i64 0]], []⟩ 8 (by kernel_rfl) (by kernel_rfl) (by kernel_rfl) (by kernel_rfl))
    laidOut (by rw [Try.params3]; decide +kernel) rfl Try.underlying4 rfl ?_ ?_
  · intro ds hl
    match ds, hl with
    | [d0, d1, d2], _ => rfl
  · intro W base args ds p hval hA
    rw [Try.params3] at hA hval
    obtain ⟨v0, vs0, d0, ds0, p0, q0, hargs, rfl, rfl, h0, r0⟩ := trodAll_cons hA
    obtain ⟨v1, vs1, d1, ds1, p1, q1, rfl, rfl, rfl, h1, r1⟩ := trodAll_cons r0
    obtain ⟨v2, vs2, d2, ds2, p2, q2, rfl, rfl, rfl, h2, r2⟩ := trodAll_cons r1
    obtain ⟨rfl, rfl, rfl⟩ := trodAll_nil r2
    obtain rfl : args = #[v0, v1, v2] := by cases args; simp_all
    obtain ⟨o0, k0, A0, l0, c0, rfl, hl0, hA0⟩ := Mem.open_plan (hval 0 25 v0 rfl rfl) h0
    obtain ⟨x1, y1, g1, q1, u1, t1, b1, rfl, hx1, hy1, hb1⟩ := Eth.open_frame (hval 1 29 v1 rfl rfl) h1
    obtain ⟨a2, b2, rfl, w2, u2⟩ := Fr.open_two Try.underlying30 Try.underlying3 (by kernel_rfl) (by kernel_rfl) (hval 2 30 v2 rfl rfl) h2
    exact Mem.walk_says W o0 k0 A0 l0 c0 hl0 hA0 x1 y1 g1 q1 u1 t1 b1 hx1 hy1 hb1 a2 b2 w2 u2

theorem over : Rows.memberSaysRow.holds Try.pinned (OpenSpec.ofChange Rows.memberSaysSpec) :=
  OpenClaim.holds_of_wide 3 Try.f3 rfl rfl rfl rfl rfl rfl rfl ⟨rfl, rfl, rfl, rfl, rfl⟩ rfl rfl rfl rfl rfl (by kernel_rfl) Try.func3 (by kernel_rfl)
    (of_decide_eq_true (by kernel_rfl)) (by unfold Func.isWrapper; first | (rw [if_pos (by decide +kernel)]; kernel_rfl) | (rw [if_neg (by decide +kernel)]; exact ⟨rfl, rfl⟩))
    (fun os started H enc _ => lifted os started H enc)
end LawMemberSays

/-- The statement MemberSays. -/
theorem memberSays_holds : Rows.MemberSaysSaid := LawMemberSays.over

end Go.Proofs.Ytbighadkcmhplaa
