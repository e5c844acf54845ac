/-
  What ParseRanges answers, and the document's, for every text.
-/
import Derived.Test.YtkflphnldnannaaPorF
namespace Go.Proofs.Ytkflphnldnannaa
open Go.RowKit
namespace Por
open Lib (run_next_any_at run_next_end_at iterAt_heap iterAt_size below_iterAt)

set_option maxHeartbeats 1000000 in
theorem pranges_any (s : ByteArray) (w : World) (hs : s.size ≤ 9223372036854775807) :
    Calls Try.prog 22 #[.string s] w fun e w' => e = .returned (.tuple #[.int .i64 (valR s), .int .i64 (errR s)]) ∧ Below w.heap.size w w' := by
  obtain ⟨G, hG⟩ : ∃ G, foldQ (runes s 0) ⟨0, -1, -1⟩ = G := ⟨_, rfl⟩
  have HY := Lib.hid (readR_yes s)
  have HN := Lib.hid (readR_no s)
  obtain ⟨V, hV⟩ : ∃ V, valR s = V := ⟨_, rfl⟩
  obtain ⟨E, hE⟩ : ∃ E, errR s = E := ⟨_, rfl⟩
  rw [hG, hV, hE] at HY HN
  rw [hV, hE]
  have HG := Lib.hid hG
  clear hG hV hE
  go_enter Try.func22, Try.ntmps22
  go_wp2
  go_loopw [4, 5, 6] (fun v l f wr => ∃ (pos m : Nat) (last fro : Int), Aside (wr.heap[w.heap.size]? = some (.stringIter s pos)) ∧ Below w.heap.size w wr ∧ v = .int .i64 m ∧ l = .int .i64 last ∧ f = .int .i64 fro ∧ Aside (okQ ⟨m, last, fro⟩) ∧ Aside (foldQ (runes s pos) ⟨m, last, fro⟩ = G)) (fun _ _ _ wr => s.size - wr.iterPos w.heap.size)
  case atStart => exact ⟨0, 0, -1, -1, World.iter_heap _ _ _, iter_below _ _ _, rfl, rfl, rfl, okQ_zero, HG.out⟩
  case round =>
    obtain ⟨pos, m, last, fro, HK, hb, rfl, rfl, rfl, HM, HO⟩ := hrel
    have HP := Lib.hid (iterPos_is HK.out)
    obtain ⟨hm, hl, hf⟩ := HM.out
    simp only at hm hl hf
    by_cases hlt : pos < s.size
    · have hnx : ∀ ty, (Instr.next (.pointer (some ⟨w.heap.size, 0, none⟩)) true ty).run Try.prog wr = _ := fun ty => run_next_any_at wr w.heap.size s pos ty HK.out hlt
      have hO : foldQ (runes s (pos + (Utf8.decode s pos).2)) (stepQ ⟨m, last, fro⟩ ((Utf8.decode s pos).1 : Int)) = G := by
        have := HO.out
        rw [runes_next s pos hlt] at this
        exact this
      have HM1 := okQ_step ⟨m, last, fro⟩ ((Utf8.decode s pos).1 : Int) HM.out
      have hwd := width_pos s pos hlt
      have hr2 : ((Utf8.decode s pos).1 : Int) ≤ 2147483647 := by have := decode_le s pos; omega
      have hr0 : 0 ≤ ((Utf8.decode s pos).1 : Int) := by omega
      obtain ⟨n, hn⟩ : ∃ n, pos + (Utf8.decode s pos).2 = n := ⟨_, rfl⟩
      rw [hn] at hO hnx
      have hpn : pos < n := by omega
      clear hwd hn
      generalize ((Utf8.decode s pos).1 : Int) = r at *
      obtain ⟨hb1, hk1⟩ := iter_step hb HK.out n
      have HK1 := Lib.hid hk1
      clear hk1 HO HK
      clear HM
      have hR := Lib.hid (port_any r)
      have hI := portI_in r
      by_cases hp : 0 ≤ portI r ∧ portI r < 8
      · rw [stepQ_port _ _ hp] at hO HM1
        have hG := Lib.hid (right_any (portI r))
        rw [decide_eq_true hp] at hG
        have hFl := Lib.hid (filled_any fro (portI r) hp.2)
        have hbo := or_nat m (fillN fro (portI r)) hm (fillN_lt _ _)
        generalize fillN fro (portI r) = fl at *
        simp only at hO HM1
        generalize portI r = p at *
        generalize m ||| fl = m1 at *
        obtain ⟨hp0, hp1⟩ := hp
        have HO2 := Lib.hid hO
        have HM2 := Lib.hid HM1
        clear hO HM1 hI hl hf hm
        go_wp2_with fail
        refine (hR.out _).mono ?_; rintro e w2 ⟨rfl, hb2⟩
        have HK2 := Lib.hid (iter_keep hb2 HK1.out)
        have bel := hb1.trans (hb2.mono hb1.size)
        clear hb1 hb2 hnx
        go_wp2_with fail
        refine (hG.out _).mono ?_; rintro e w' ⟨rfl, rfl⟩
        go_wp2_with fail
        refine (hFl.out _).mono ?_; rintro e w' ⟨rfl, rfl⟩
        go_wp2
        go_roundw
        case rel => exact ⟨n, m1, p, -1, HK2.out, bel, rfl, rfl, rfl, HM2.out, HO2.out⟩
        case measure => rw [iterPos_is HK2.out, HP.out]; omega
      · have hG := Lib.hid (right_any (portI r))
        rw [decide_eq_false hp] at hG
        by_cases h45 : r = 45
        · rw [stepQ_hyphen _ _ hp h45] at hO HM1
          simp only at hO HM1
          generalize portI r = p at *
          subst h45
          have HO2 := Lib.hid hO
          have HM2 := Lib.hid HM1
          clear hO HM1 hI hl hf hm hp
          go_wp2_with fail
          refine (hR.out _).mono ?_; rintro e w2 ⟨rfl, hb2⟩
          have HK2 := Lib.hid (iter_keep hb2 HK1.out)
          have bel := hb1.trans (hb2.mono hb1.size)
          clear hb1 hb2 hnx
          go_wp2_with fail
          refine (hG.out _).mono ?_; rintro e w' ⟨rfl, rfl⟩
          go_wp2
          go_roundw
          case rel => exact ⟨n, m, last, last, HK2.out, bel, rfl, rfl, rfl, HM2.out, HO2.out⟩
          case measure => rw [iterPos_is HK2.out, HP.out]; omega
        · rw [stepQ_else _ _ hp h45] at hO HM1
          have e45 : (r == 45) = false := by simpa using h45
          generalize portI r = p at *
          have HO2 := Lib.hid hO
          have HM2 := Lib.hid HM1
          clear hO HM1 hI hl hf hm hp h45
          go_wp2_with fail
          refine (hR.out _).mono ?_; rintro e w2 ⟨rfl, hb2⟩
          have HK2 := Lib.hid (iter_keep hb2 HK1.out)
          have bel := hb1.trans (hb2.mono hb1.size)
          clear hb1 hb2 hnx
          go_wp2_with fail
          refine (hG.out _).mono ?_; rintro e w' ⟨rfl, rfl⟩
          go_wp2
          go_roundw
          case rel => exact ⟨n, m, last, fro, HK2.out, bel, rfl, rfl, rfl, HM2.out, HO2.out⟩
          case measure => rw [iterPos_is HK2.out, HP.out]; omega
    · have hnx : ∀ ty, (Instr.next (.pointer (some ⟨w.heap.size, 0, none⟩)) true ty).run Try.prog wr = _ := fun ty => run_next_end_at wr w.heap.size s pos ty HK.out hlt
      have hO := HO.out
      rw [runes_end s pos hlt] at hO
      obtain rfl : (⟨m, last, fro⟩ : Qs) = G := hO
      simp only at HY HN
      have hT := ranges_any m
      rw [low_nat m hm] at hT
      have HT := Lib.hid hT
      by_cases he : rangesB m = s
      · have HV := Lib.hid (HY.out he)
        rw [he] at HT
        clear hT he HO HM hl hf
        go_wp2_with fail
        refine (HT.out _).mono ?_; rintro e w2 ⟨rfl, hb2⟩
        have bel := hb.trans (hb2.mono hb.size)
        go_wp2
        go_ret2
        exact ⟨by rw [HV.out.1, HV.out.2]; rfl, bel⟩
      · have HV := Lib.hid (HN.out he)
        clear hT HO HM hl hf
        generalize rangesB m = T at *
        have h1 := list_ne he
        clear he
        go_wp2_with fail
        refine (HT.out _).mono ?_; rintro e w2 ⟨rfl, hb2⟩
        have bel := hb.trans (hb2.mono hb.size)
        go_wp2
        go_ret2
        exact ⟨by rw [HV.out.1, HV.out.2]; rfl, bel⟩

end Por
end Go.Proofs.Ytkflphnldnannaa
