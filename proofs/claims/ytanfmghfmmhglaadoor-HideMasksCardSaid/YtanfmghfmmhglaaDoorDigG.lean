/-
  What digest.Block answers.
-/
import Derived.Test.YtanfmghfmmhglaaDoorDigB
import Derived.Test.YtanfmghfmmhglaaDoorDigD
namespace Go.Proofs.YtanfmghfmmhglaaDoor
open Go.RowKit
namespace Dig
open Fr

/-- Four words as a value, and as cells. -/
abbrev qL (q : Q) : List Value := [.int .u32 q.a, .int .u32 q.b, .int .u32 q.c, .int .u32 q.d]
abbrev qV (q : Q) : Value := .agg #[.int .u32 q.a, .int .u32 q.b, .int .u32 q.c, .int .u32 q.d]

theorem info_q : (Tryd.prog.info? 35).map (·.size) = some 4 := by kernel_rfl

theorem Home.draws {w : World} (h : Home w) (n : Nat) : Home (w.drewN n) := h

set_option maxHeartbeats 400000 in
theorem block_not (h : Q) (s : ByteArray) (w : World) (hs : ¬ s.size = 64) :
    Calls Tryd.prog 35 #[qV h, .string s] w fun e w' => e = .returned (qV h) ∧ Below w.heap.size w w' := by
  have q : ((s.size : Int) != 64) = true := by simp; omega
  clear hs
  obtain ⟨a, b, c, d⟩ := h
  go_enter Tryd.func35, Tryd.ntmps35
  go_wp2
  exact bodyPost_ret (v := qV ⟨a, b, c, d⟩) (results_arr (l := qL ⟨a, b, c, d⟩) Tryd.results35 rfl Tryd.underlying35 rfl info_q (Bx.Blk.new_at (qL ⟨a, b, c, d⟩) 35 (by simp))) rfl ⟨rfl, Bx.bel_box (Bx.box_below _ _) _⟩

theorem rotN_lt (x n : Nat) (hx : x < 4294967296) : rotN x n < 4294967296 := by
  unfold rotN
  refine or_lt _ _ (Nat.mod_lt _ (by omega)) (Nat.lt_of_le_of_lt (Nat.div_le_self _ _) hx)

theorem add_u32 (x y : Nat) : ((x : Int) + (y : Int)) % 4294967296 = (add2 x y : Nat) := by unfold add2; omega

def zW : List Value := [.int .u32 0, .int .u32 0, .int .u32 0, .int .u32 0, .int .u32 0, .int .u32 0, .int .u32 0, .int .u32 0, .int .u32 0, .int .u32 0, .int .u32 0, .int .u32 0, .int .u32 0, .int .u32 0, .int .u32 0, .int .u32 0]

/-- What a round of Block finds in memory: the block's words at g, the first words and room for the answer at k and behind it, the tables. -/
def Found (w : World) (k g : Nat) (h : Q) (l : List UInt8) (wr : World) : Prop := Bx.Blk wr g (upL l 64) ∧ Bx.Own wr k (qL h) ∧ Bx.Own wr (k + 1) (qL ⟨0, 0, 0, 0⟩) ∧ Home wr ∧ Below w.heap.size w wr

theorem Found.draws {w wr : World} {k g : Nat} {h : Q} {l : List UInt8} (f : Found w k g h l wr) (n : Nat) : Found w k g h l (wr.drewN n) :=
  ⟨f.1, f.2.1, f.2.2.1, f.2.2.2.1, f.2.2.2.2.trans ⟨rfl, rfl, rfl, Nat.le_refl _, fun _ _ => rfl⟩⟩

theorem Found.start {w w1 : World} {h : Q} {l : List UInt8} (t : TypeId) (hm : Home w)
    (hb : Below ((w.alloc (.cells (qL h).toArray 35)).alloc (.cells (qL ⟨0, 0, 0, 0⟩).toArray 35)).heap.size ((w.alloc (.cells (qL h).toArray 35)).alloc (.cells (qL ⟨0, 0, 0, 0⟩).toArray 35)) w1) :
    Found w w.heap.size w1.heap.size h l (w1.alloc (.cells (upL l 64).toArray t)) := by
  have b2 := Bx.bel_box (Bx.then_below (Bx.bel_box (Bx.box_below w (.cells (qL h).toArray 35)) (.cells (qL ⟨0, 0, 0, 0⟩).toArray 35)) hb) (.cells (upL l 64).toArray t)
  refine ⟨Bx.Blk.new _ _ _, ?_, ?_, hm.below b2, b2⟩
  · exact ((Bx.Own.new w (qL h) 35).more _ |>.keep hb).more _
  · exact ((Bx.Own.new_at (qL ⟨0, 0, 0, 0⟩) 35 (by simp)).keep hb).more _

set_option maxHeartbeats 1000000 in
theorem block_yes (h : Q) (hh : h.ok) (s : ByteArray) (w : World) (hs : s.size = 64) (hm : Home w) :
    Calls Tryd.prog 35 #[qV h, .string s] w fun e w' => e = .returned (qV (plusN h (roundsN (wordN s.data.toList) h 64))) ∧ Below w.heap.size w w' := by
  obtain ⟨a, b, c, d⟩ := h
  obtain ⟨ha, hb, hc, hd⟩ := hh
  have q : ((s.size : Int) != 64) = false := by simp; omega
  have HW := Lib.hid (fun w => words_any s w hs)
  clear hs
  have HM := Lib.hid hm
  clear hm
  go_enter Tryd.func35, Tryd.ntmps35
  go_wp2_with fail
  refine (HW.out _).mono ?_
  rintro e w1 ⟨rfl, hb1⟩
  go_wp2_with (refine Bx.step_new (W := w1) (op := ⟨none, _, _, _, _, _⟩) rfl 73 (.tmp 5) (.tmp 18) rfl zW (upL s.data.toList 64) _ rfl rfl (by simp [zW, upL]) (by rw [show (upL s.data.toList 64).length = 16 by simp [upL]]; exact info_w) (upL_one _ _) ?_)
  have hf := Found.start (h := ⟨a, b, c, d⟩) (l := s.data.toList) 73 HM.out hb1
  obtain ⟨g, hg⟩ : ∃ g, w1.heap.size = g := ⟨_, rfl⟩
  rw [hg] at hf ⊢
  generalize w1.alloc (.cells (upL s.data.toList 64).toArray 73) = w2 at *
  clear hg hb1 HW
  obtain ⟨h0, h1, h2, h3⟩ := hf.2.1.1.all4
  have HF := Lib.hid hf
  clear hf
  go_quiet (fail)
  have HF2 := Lib.hid (HF.out.draws nq)
  clear h0 h1 h2 h3 HF
  generalize w2.drewN nq = w3 at *
  go_wp2
  go_loopw [6, 7, 8, 9, 27] (fun A B C D i wr => ∃ (k : Nat) (r : Q), k ≤ 64 ∧ i = .int .i64 k ∧ A = .int .u32 r.a ∧ B = .int .u32 r.b ∧ C = .int .u32 r.c ∧ D = .int .u32 r.d ∧ r.ok ∧ Hid (r = roundsN (wordN s.data.toList) ⟨a, b, c, d⟩ k) ∧
    Hid (Found w w.heap.size g ⟨a, b, c, d⟩ s.data.toList wr)) (fun _ _ _ _ i _ => 64 - (intOf i).toNat)
  case atStart => exact ⟨0, ⟨a, b, c, d⟩, by omega, rfl, rfl, rfl, rfl, rfl, ⟨ha, hb, hc, hd⟩, Lib.hid rfl, HF2⟩
  case round =>
    obtain ⟨k, ⟨A, B, C, D⟩, hk, rfl, rfl, rfl, rfl, rfl, ⟨hA, hB, hC, hD⟩, HR, HW⟩ := hrel
    by_cases hlt : k < 64
    · obtain ⟨hB0, hO1, hO2, hM, hbel⟩ := HW.out
      have hcw := hB0.at (mixG k) (upL_at s.data.toList 64 (mixG k) (mixG_lt _))
      rw [upW_all _ _ _ (by have := mixG_lt k; omega)] at hcw
      have HMx := Lib.hid (fun w => mix_any k B C D w hB hC hD)
      have hF := mixF_lt k B C D hB hC hD
      have hG := mixG_lt k
      have hG2 : ((mixG k : Nat) : Int) < 16 := by omega
      have HK := Lib.hid (fun n => (const_any k (wr.drewN n) (hM.draws n)).mono fun _ _ ⟨e1, e2⟩ => And.intro e1 e2.symm)
      rw [show constN k = kAt k by unfold constN; rw [if_pos (by omega)]; simp] at HK
      have s1 : IntKind.u32.wrap ((A : Int) + (kAt k : Nat)) = (add2 A (kAt k) : Nat) := by rw [IntKind.wrap_u32']; exact add_u32 _ _
      have s2 : IntKind.u32.wrap ((add2 A (kAt k) : Nat) + (wordN s.data.toList (mixG k) : Nat) : Int) = (add2 (add2 A (kAt k)) (wordN s.data.toList (mixG k)) : Nat) := by rw [IntKind.wrap_u32']; exact add_u32 _ _
      have s3 : IntKind.u32.wrap ((mixF k B C D : Nat) + (add2 (add2 A (kAt k)) (wordN s.data.toList (mixG k)) : Nat) : Int) = (add2 (mixF k B C D) (add2 (add2 A (kAt k)) (wordN s.data.toList (mixG k))) : Nat) := by rw [IntKind.wrap_u32']; exact add_u32 _ _
      have hS : add2 (mixF k B C D) (add2 (add2 A (kAt k)) (wordN s.data.toList (mixG k))) < 4294967296 := Nat.mod_lt _ (by omega)
      have HN : Hid (stepN (wordN s.data.toList) k ⟨A, B, C, D⟩ = ⟨D, add2 B (rotN (add2 (mixF k B C D) (add2 (add2 A (kAt k)) (wordN s.data.toList (mixG k)))) (byN k)), B, C⟩) := Lib.hid rfl
      have hct := hM.2.1 (k / 16 * 4 + k % 4) (by omega)
      rw [show (tL.getD (k / 16 * 4 + k % 4) 0) = byN k from rfl] at hct
      have hT : byN k < 32 := by
        have : ∀ j : Fin 64, byN j.1 < 32 := by decide
        exact this ⟨k, hlt⟩
      clear hB0 hO1 hO2 hM hbel
      have hrr := rotN_lt (add2 (mixF k B C D) (add2 (add2 A (kAt k)) (wordN s.data.toList (mixG k)))) (byN k) hS
      have HTu : Hid (∀ w, Calls Tryd.prog 53 #[.int .u32 (add2 (mixF k B C D) (add2 (add2 A (kAt k)) (wordN s.data.toList (mixG k))) : Nat), .int .i64 (byN k)] w fun e w' => e = .returned (.int .u32 (rotN (add2 (mixF k B C D) (add2 (add2 A (kAt k)) (wordN s.data.toList (mixG k)))) (byN k) : Nat)) ∧ w = w') := Lib.hid (fun w => by
        have := turn_any (add2 (mixF k B C D) (add2 (add2 A (kAt k)) (wordN s.data.toList (mixG k)))) (byN k) w hS
        rwa [show ((byN k : Nat) : Int) % 32 = (byN k : Nat) by omega, Int.toNat_natCast] at this)
      generalize mixF k B C D = F at *
      generalize mixG k = G at *
      generalize kAt k = K at *
      generalize wordN s.data.toList G = X at *
      generalize byN k = T at *
      generalize add2 A K = S1 at *
      generalize add2 S1 X = S2 at *
      generalize add2 F S2 = S at *
      generalize rotN S T = R at *
      have s4 : ((B : Int) + (R : Int)) % 4294967296 = (add2 B R : Nat) := add_u32 _ _
      go_wp2_with fail
      refine (HMx.out _).mono ?_
      rintro e w4 ⟨rfl, rfl⟩
      go_wp2_with fail
      go_quiet ((go_at_call 52; exact Calls.quiet_of_same (HK.out _)))
      have HW2 := Lib.hid (HW.out.draws nq)
      have hct2 : (wr.drewN nq).cell? ⟨0, k / 16 * 4 + k % 4, none⟩ = some (.int .i64 T) := hct
      clear hct hcw HW HMx HK s1 s2 s3
      generalize wr.drewN nq = w5 at *
      go_wp2_with fail
      refine (HTu.out _).mono ?_
      rintro e w6 ⟨rfl, rfl⟩
      go_wp2_with fail
      go_roundw
      case rel => exact ⟨k + 1, ⟨D, add2 B R, B, C⟩, by omega, by go_num, rfl, rfl, rfl, rfl, ⟨hD, Nat.mod_lt _ (by omega), hB, hC⟩, Lib.hid (by rw [roundsN, ← HR.out, HN.out]), HW2⟩
      case measure => simp [intOf]; omega
    · obtain rfl : k = 64 := by omega
      obtain ⟨hB0, hO1, hO2, hM, hbel⟩ := HW.out
      obtain ⟨h0, h1, h2, h3⟩ := hO1.1.all4
      have HO := Lib.hid (And.intro hO2 hbel)
      have t1 : ((a : Int) + (A : Int)) % 4294967296 = (add2 a A : Nat) := add_u32 _ _
      have t2 : ((b : Int) + (B : Int)) % 4294967296 = (add2 b B : Nat) := add_u32 _ _
      have t3 : ((c : Int) + (C : Int)) % 4294967296 = (add2 c C : Nat) := add_u32 _ _
      have t4 : ((d : Int) + (D : Int)) % 4294967296 = (add2 d D : Nat) := add_u32 _ _
      clear hB0 hO1 hO2 hM hbel HW
      go_wp2_with (refine Bx.step_store (op := ⟨none, _, _, _, _, _⟩) rfl 35 (.tmp 4) (.tmp 79) rfl (w.heap.size + 1) (qL ⟨0, 0, 0, 0⟩) (qL (plusN ⟨a, b, c, d⟩ ⟨A, B, C, D⟩)) rfl rfl rfl info_q (by simp [Value.oneCell']) HO.out.1 ?_)
      refine bodyPost_ret (v := qV (plusN ⟨a, b, c, d⟩ ⟨A, B, C, D⟩)) (results_arr (l := qL (plusN ⟨a, b, c, d⟩ ⟨A, B, C, D⟩)) Tryd.results35 rfl Tryd.underlying35 rfl info_q (HO.out.1.put (m := qL (plusN ⟨a, b, c, d⟩ ⟨A, B, C, D⟩)) rfl).blk) rfl ⟨by rw [← HR.out], Bx.bel_cells HO.out.2 (by omega)⟩

/-- Block(h, s). -/
theorem block_any (h : Q) (hh : h.ok) (s : ByteArray) (w : World) (hm : Home w) :
    Calls Tryd.prog 35 #[qV h, .string s] w fun e w' => e = .returned (qV (blockN h s.data.toList)) ∧ Below w.heap.size w w' := by
  unfold blockN
  by_cases hs : s.size = 64
  · rw [if_pos (by simpa using hs)]
    exact block_yes h hh s w hs hm
  · rw [if_neg (by simpa using hs)]
    exact block_not h s w hs

end Dig
end Go.Proofs.YtanfmghfmmhglaaDoor
