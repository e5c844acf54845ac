/-
  What the document's Block answers.
-/
import Derived.Test.YtanfmghfmmhglaaDoorDigG
namespace Go.Proofs.YtanfmghfmmhglaaDoor
open Go.RowKit
namespace Dig
open Fr

/-- What a round of the document's Block finds in memory. -/
def RFound (w : World) (k : Nat) (h : Q) (wr : World) : Prop := Bx.Own wr k (qL h) ∧ Bx.Own wr (k + 1) (qL ⟨0, 0, 0, 0⟩) ∧ Below w.heap.size w wr

theorem RFound.keep {w wr w1 : World} {k : Nat} {h : Q} (f : RFound w k h wr) (hb : Below wr.heap.size wr w1) : RFound w k h w1 := ⟨f.1.keep hb, f.2.1.keep hb, Bx.then_below f.2.2 hb⟩

theorem RFound.draws {w wr : World} {k : Nat} {h : Q} (f : RFound w k h wr) (n : Nat) : RFound w k h (wr.drewN n) := ⟨f.1, f.2.1, f.2.2.trans ⟨rfl, rfl, rfl, Nat.le_refl _, fun _ _ => rfl⟩⟩

theorem RFound.start (w : World) (h : Q) : RFound w w.heap.size h ((w.alloc (.cells (qL h).toArray 35)).alloc (.cells (qL ⟨0, 0, 0, 0⟩).toArray 35)) :=
  ⟨(Bx.Own.new w (qL h) 35).more _, Bx.Own.new_at (qL ⟨0, 0, 0, 0⟩) 35 (by simp), Bx.bel_box (Bx.box_below w _) _⟩

set_option maxHeartbeats 400000 in
theorem rblock_not (h : Q) (s : ByteArray) (w : World) (hs : ¬ s.size = 64) :
    Calls Tryd.prog 23 #[qV h, .string s] w fun e w' => e = .returned (qV h) ∧ Below w.heap.size w w' := by
  have q : ((s.size : Int) != 64) = true := by simp; omega
  clear hs
  obtain ⟨a, b, c, d⟩ := h
  go_enter Tryd.func23, Tryd.ntmps23
  go_wp2
  exact bodyPost_ret (v := qV ⟨a, b, c, d⟩) (results_arr (l := qL ⟨a, b, c, d⟩) Tryd.results23 rfl Tryd.underlying35 rfl info_q (Bx.Blk.new_at (qL ⟨a, b, c, d⟩) 35 (by simp))) rfl ⟨rfl, Bx.bel_box (Bx.box_below _ _) _⟩

set_option maxHeartbeats 1000000 in
theorem rblock_yes (h : Q) (hh : h.ok) (s : ByteArray) (w : World) (hs : s.size = 64) :
    Calls Tryd.prog 23 #[qV h, .string s] w fun e w' => e = .returned (qV (plusN h (roundsN (wordN s.data.toList) h 64))) ∧ Below w.heap.size w w' := by
  obtain ⟨a, b, c, d⟩ := h
  obtain ⟨ha, hb, hc, hd⟩ := hh
  have q : ((s.size : Int) != 64) = false := by simp; omega
  have HS := Lib.hid hs
  have HF := Lib.hid (RFound.start w ⟨a, b, c, d⟩)
  clear hs
  go_enter Tryd.func23, Tryd.ntmps23
  go_wp2
  go_quiet (fail)
  have HF2 := Lib.hid (HF.out.draws nq)
  clear HF
  go_wp2
  go_loopw [5, 6, 7, 8, 24] (fun A B C D i wr => ∃ (k : Nat) (r : Q), k ≤ 64 ∧ i = .int .i64 k ∧ A = .int .u32 r.a ∧ B = .int .u32 r.b ∧ C = .int .u32 r.c ∧ D = .int .u32 r.d ∧ r.ok ∧ Hid (r = roundsN (wordN s.data.toList) ⟨a, b, c, d⟩ k) ∧
    Hid (RFound w w.heap.size ⟨a, b, c, d⟩ wr)) (fun _ _ _ _ i _ => 64 - (intOf i).toNat)
  case atStart => exact ⟨0, ⟨a, b, c, d⟩, by omega, rfl, rfl, rfl, rfl, rfl, ⟨ha, hb, hc, hd⟩, Lib.hid rfl, HF2⟩
  case round =>
    obtain ⟨k, ⟨A, B, C, D⟩, hk, rfl, rfl, rfl, rfl, rfl, ⟨hA, hB, hC, hD⟩, HR, HW⟩ := hrel
    by_cases hlt : k < 64
    · have HMx := Lib.hid (fun w => rmix_any k B C D w hB hC hD)
      have hG := mixG_lt k
      have HK := Lib.hid (fun w => rconst_any k w)
      rw [show constN k = kAt k by unfold constN; rw [if_pos (by omega)]; simp] at HK
      have HWd := Lib.hid (fun w => rword_any s (4 * mixG k) w HS.out (by omega))
      change Hid (∀ w, Calls _ _ _ w fun e w' => e = .returned (.int .u32 (wordN s.data.toList (mixG k) : Nat)) ∧ _) at HWd
      rw [show ((4 * mixG k : Nat) : Int) = 4 * ((mixG k : Nat) : Int) by omega] at HWd
      have HBy := Lib.hid (fun w => rby_any k hlt w)
      have s1 : ((A : Int) + (kAt k : Nat)) % 4294967296 = (add2 A (kAt k) : Nat) := add_u32 _ _
      have s2 : ((add2 A (kAt k) : Nat) + (wordN s.data.toList (mixG k) : Nat) : Int) % 4294967296 = (add2 (add2 A (kAt k)) (wordN s.data.toList (mixG k)) : Nat) := add_u32 _ _
      have s3 : ((mixF k B C D : Nat) + (add2 (add2 A (kAt k)) (wordN s.data.toList (mixG k)) : Nat) : Int) % 4294967296 = (add2 (mixF k B C D) (add2 (add2 A (kAt k)) (wordN s.data.toList (mixG k))) : Nat) := add_u32 _ _
      have hS : add2 (mixF k B C D) (add2 (add2 A (kAt k)) (wordN s.data.toList (mixG k))) < 4294967296 := Nat.mod_lt _ (by omega)
      have HN : Hid (stepN (wordN s.data.toList) k ⟨A, B, C, D⟩ = ⟨D, add2 B (rotN (add2 (mixF k B C D) (add2 (add2 A (kAt k)) (wordN s.data.toList (mixG k)))) (byN k)), B, C⟩) := Lib.hid rfl
      have hT : byN k < 32 := by
        have : ∀ j : Fin 64, byN j.1 < 32 := by decide
        exact this ⟨k, hlt⟩
      have HTu : Hid (∀ w, Calls Tryd.prog 39 #[.int .u32 (add2 (mixF k B C D) (add2 (add2 A (kAt k)) (wordN s.data.toList (mixG k))) : Nat), .int .i64 (byN k)] w fun e w' => e = .returned (.int .u32 (rotN (add2 (mixF k B C D) (add2 (add2 A (kAt k)) (wordN s.data.toList (mixG k)))) (byN k) : Nat)) ∧ w = w') := Lib.hid (fun w => by
        have := rturn_any (add2 (mixF k B C D) (add2 (add2 A (kAt k)) (wordN s.data.toList (mixG k)))) (byN k) w hS
        rwa [show ((byN k : Nat) : Int) % 32 = (byN k : Nat) by omega, Int.toNat_natCast] at this)
      generalize mixF k B C D = F at *
      generalize mixG k = G at *
      generalize kAt k = K at *
      generalize wordN s.data.toList G = X at *
      generalize byN k = T at *
      generalize add2 A K = S1 at *
      generalize add2 S1 X = S2 at *
      generalize add2 F S2 = S at *
      generalize rotN S T = R at *
      have s4 : ((B : Int) + (R : Int)) % 4294967296 = (add2 B R : Nat) := add_u32 _ _
      go_wp2_with fail
      refine (HMx.out _).mono ?_
      rintro e w4 ⟨rfl, rfl⟩
      go_wp2_with fail
      refine (HK.out _).mono ?_
      rintro e w5 ⟨rfl, hb5⟩
      go_wp2_with fail
      refine (HWd.out _).mono ?_
      rintro e w6 ⟨rfl, n6, rfl⟩
      go_wp2_with fail
      refine (HBy.out _).mono ?_
      rintro e w7 ⟨rfl, hb7⟩
      go_wp2_with fail
      refine (HTu.out _).mono ?_
      rintro e w8 ⟨rfl, rfl⟩
      go_wp2_with fail
      have HW2 := Lib.hid (((HW.out.keep hb5).draws n6).keep hb7)
      go_roundw
      case rel => exact ⟨k + 1, ⟨D, add2 B R, B, C⟩, by omega, by go_num, rfl, rfl, rfl, rfl, ⟨hD, Nat.mod_lt _ (by omega), hB, hC⟩, Lib.hid (by rw [roundsN, ← HR.out, HN.out]), HW2⟩
      case measure => simp [intOf]; omega
    · obtain rfl : k = 64 := by omega
      obtain ⟨hO1, hO2, hbel⟩ := HW.out
      obtain ⟨h0, h1, h2, h3⟩ := hO1.1.all4
      have HO := Lib.hid (And.intro hO2 hbel)
      have t1 : ((a : Int) + (A : Int)) % 4294967296 = (add2 a A : Nat) := add_u32 _ _
      have t2 : ((b : Int) + (B : Int)) % 4294967296 = (add2 b B : Nat) := add_u32 _ _
      have t3 : ((c : Int) + (C : Int)) % 4294967296 = (add2 c C : Nat) := add_u32 _ _
      have t4 : ((d : Int) + (D : Int)) % 4294967296 = (add2 d D : Nat) := add_u32 _ _
      clear hO1 hO2 hbel HW
      go_wp2_with (refine Bx.step_store (op := ⟨none, _, _, _, _, _⟩) rfl 35 (.tmp 4) (.tmp 72) rfl (w.heap.size + 1) (qL ⟨0, 0, 0, 0⟩) (qL (plusN ⟨a, b, c, d⟩ ⟨A, B, C, D⟩)) rfl rfl rfl info_q (by simp [Value.oneCell']) HO.out.1 ?_)
      refine bodyPost_ret (v := qV (plusN ⟨a, b, c, d⟩ ⟨A, B, C, D⟩)) (results_arr (l := qL (plusN ⟨a, b, c, d⟩ ⟨A, B, C, D⟩)) Tryd.results23 rfl Tryd.underlying35 rfl info_q (HO.out.1.put (m := qL (plusN ⟨a, b, c, d⟩ ⟨A, B, C, D⟩)) rfl).blk) rfl ⟨by rw [← HR.out], Bx.bel_cells HO.out.2 (by omega)⟩

/-- The document's Block. -/
theorem rblock_any (h : Q) (hh : h.ok) (s : ByteArray) (w : World) :
    Calls Tryd.prog 23 #[qV h, .string s] w fun e w' => e = .returned (qV (blockN h s.data.toList)) ∧ Below w.heap.size w w' := by
  unfold blockN
  by_cases hs : s.size = 64
  · rw [if_pos (by simpa using hs)]
    exact rblock_yes h hh s w hs
  · rw [if_neg (by simpa using hs)]
    exact rblock_not h s w hs

end Dig
end Go.Proofs.YtanfmghfmmhglaaDoor
