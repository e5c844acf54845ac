/-
  What Parse answers, and the document's, for every text.
-/
import Derived.Test.YtkflphnldnannaaPorE
import Derived.Test.YtkflphnldnannaaPorTxt
import Derived.Lib.OthersKept
namespace Go.Proofs.Ytkflphnldnannaa
open Go.RowKit
namespace Por
open Lib (run_next_any_at run_next_end_at iterAt_heap iterAt_size below_iterAt)

theorem iterPos_is {w : World} {k : Nat} {s : ByteArray} {p : Nat} (h : w.heap[k]? = some (.stringIter s p)) : w.iterPos k = p := by simp [World.iterPos, h]

/-- One step of a text's iterator: the world behind it. -/
theorem iter_step {s : ByteArray} {w wr : World} {pos : Nat} (hb : Below w.heap.size w wr) (hk : wr.heap[w.heap.size]? = some (.stringIter s pos)) (n : Nat) :
    Below w.heap.size w (wr.iterAt w.heap.size s n) ∧ (wr.iterAt w.heap.size s n).heap[w.heap.size]? = some (.stringIter s n) :=
  ⟨below_iterAt hb (Nat.le_refl _) s n, iterAt_heap _ _ _ _ _ hk⟩

theorem iter_keep {s : ByteArray} {w W W2 : World} {n : Nat} (hb : Below W.heap.size W W2) (hk : W.heap[w.heap.size]? = some (.stringIter s n)) : W2.heap[w.heap.size]? = some (.stringIter s n) := by
  rw [hb.block w.heap.size (Array.getElem?_eq_some_iff.1 hk).1]
  exact hk

theorem list_ne {a b : ByteArray} (h : ¬ a = b) : (a.toList == b.toList) = false := by
  rw [beq_eq_false_iff_ne]
  intro h1
  rw [ByteArray.toList_eq, ByteArray.toList_eq] at h1
  exact h (ByteArray.ext (Array.ext' h1))

set_option maxHeartbeats 1000000 in
theorem parse_any (s : ByteArray) (w : World) (hs : s.size ≤ 9223372036854775807) :
    Calls Try.prog 8 #[.string s] w fun e w' => e = .returned (.tuple #[.int .i64 (valT s), .int .i64 (errT s)]) ∧ Below w.heap.size w w' := by
  obtain ⟨F, hF⟩ : ∃ F, foldP (runes s 0) 0 = F := ⟨_, rfl⟩
  have hF8 : F < 256 := by rw [← hF]; exact foldP_lt _ _ (by decide)
  have HY := Lib.hid (readT_yes s)
  have HN := Lib.hid (readT_no s)
  rw [hF] at HY HN
  have HF := Lib.hid hF
  obtain ⟨V, hV⟩ : ∃ V, valT s = V := ⟨_, rfl⟩
  obtain ⟨E, hE⟩ : ∃ E, errT s = E := ⟨_, rfl⟩
  rw [hV, hE] at HY HN
  rw [hV, hE]
  clear hF hV hE
  go_enter Try.func8, Try.ntmps8
  go_wp2
  go_loopw [4] (fun v wr => ∃ (pos m : Nat), Aside (wr.heap[w.heap.size]? = some (.stringIter s pos)) ∧ Below w.heap.size w wr ∧ v = .int .i64 m ∧ m < 256 ∧ Aside (foldP (runes s pos) m = F)) (fun _ wr => s.size - wr.iterPos w.heap.size)
  case atStart => exact ⟨0, 0, World.iter_heap _ _ _, iter_below _ _ _, rfl, by omega, HF.out⟩
  case round =>
    obtain ⟨pos, m, HK, hb, rfl, hm, HO⟩ := hrel
    have HP := Lib.hid (iterPos_is HK.out)
    by_cases hlt : pos < s.size
    · have hnx : ∀ ty, (Instr.next (.pointer (some ⟨w.heap.size, 0, none⟩)) true ty).run Try.prog wr = _ := fun ty => run_next_any_at wr w.heap.size s pos ty HK.out hlt
      have hO := HO.out
      rw [runes_next s pos hlt, foldP_cons] at hO
      have hwd := width_pos s pos hlt
      obtain ⟨n, hn⟩ : ∃ n, pos + (Utf8.decode s pos).2 = n := ⟨_, rfl⟩
      rw [hn] at hO hnx
      have hpn : pos < n := by omega
      clear hwd hn
      generalize ((Utf8.decode s pos).1 : Int) = r at *
      have hW := Lib.hid (with_nat m (portI r) hm)
      have hwl := withN_lt m (portI r) hm
      generalize withN m (portI r) = m1 at *
      have hR := Lib.hid (port_any r)
      generalize portI r = p at *
      obtain ⟨hb1, hk1⟩ := iter_step hb HK.out n
      have HK1 := Lib.hid hk1
      have HO2 := Lib.hid hO
      clear hk1 hO HO HK
      go_wp2_with fail
      refine (hR.out _).mono ?_; rintro e w2 ⟨rfl, hb2⟩
      have HK2 := Lib.hid (iter_keep hb2 HK1.out)
      have bel := hb1.trans (hb2.mono hb1.size)
      clear hb1 hb2 hnx
      go_wp2_with fail
      refine (hW.out _).mono ?_; rintro e w' ⟨rfl, rfl⟩
      go_wp2
      go_roundw
      case rel => exact ⟨n, m1, HK2.out, bel, rfl, hwl, HO2.out⟩
      case measure => rw [iterPos_is HK2.out, HP.out]; omega
    · have hnx : ∀ ty, (Instr.next (.pointer (some ⟨w.heap.size, 0, none⟩)) true ty).run Try.prog wr = _ := fun ty => run_next_end_at wr w.heap.size s pos ty HK.out hlt
      have hO := HO.out
      rw [runes_end s pos hlt] at hO
      obtain rfl : m = F := hO
      have hT := text_any m
      rw [low_nat m hm] at hT
      have HT := Lib.hid hT
      by_cases he : textB m = s
      · have HV := Lib.hid (HY.out he)
        rw [he] at HT
        clear hT he HO
        go_wp2_with fail
        refine (HT.out _).mono ?_; rintro e w2 ⟨rfl, hb2⟩
        have bel := hb.trans (hb2.mono hb.size)
        go_wp2
        go_ret2
        exact ⟨by rw [HV.out.1, HV.out.2]; rfl, bel⟩
      · have HV := Lib.hid (HN.out he)
        clear hT HO
        generalize textB m = T at *
        have h1 := list_ne he
        clear he
        go_wp2_with fail
        refine (HT.out _).mono ?_; rintro e w2 ⟨rfl, hb2⟩
        have bel := hb.trans (hb2.mono hb.size)
        go_wp2
        go_ret2
        exact ⟨by rw [HV.out.1, HV.out.2]; rfl, bel⟩

theorem rpT_facts (s : ByteArray) : (s.data.toList = [45] → valT s = 0 ∧ errT s = 0) ∧ (¬ s.data.toList = [45] → (runR (runes s 0) 0 (-1) = none → valT s = 0 ∧ errT s = 3) ∧
    ∀ m, runR (runes s 0) 0 (-1) = some m → (s.data.toList = [] → valT s = 0 ∧ errT s = 3) ∧ (¬ s.data.toList = [] → valT s = m ∧ errT s = 0)) := by
  have h := rpT_is s
  unfold rpT at h
  unfold valT errT
  refine ⟨fun h0 => ?_, fun h0 => ⟨fun h1 => ?_, fun m h1 => ⟨fun h2 => ?_, fun h2 => ?_⟩⟩⟩
  · rw [if_pos h0] at h
    rw [← h]
    exact ⟨rfl, rfl⟩
  · rw [if_neg h0, h1] at h
    rw [← h]
    exact ⟨rfl, rfl⟩
  · rw [if_neg h0, h1] at h
    simp only [if_pos h2] at h
    rw [← h]
    exact ⟨rfl, rfl⟩
  · rw [if_neg h0, h1] at h
    simp only [if_neg h2] at h
    rw [← h]
    exact ⟨rfl, rfl⟩

set_option maxHeartbeats 1000000 in
theorem rparse_any (s : ByteArray) (w : World) (hs : s.size ≤ 9223372036854775807) :
    Calls Try.prog 9 #[.string s] w fun e w' => e = .returned (.tuple #[.int .i64 (valT s), .int .i64 (errT s)]) ∧ Below w.heap.size w w' := by
  obtain ⟨HY, HN⟩ := rpT_facts s
  obtain ⟨R, hR⟩ : ∃ R, runR (runes s 0) 0 (-1) = R := ⟨_, rfl⟩
  obtain ⟨V, hV⟩ : ∃ V, valT s = V := ⟨_, rfl⟩
  obtain ⟨E, hE⟩ : ∃ E, errT s = E := ⟨_, rfl⟩
  rw [hV, hE] at HY
  rw [hR, hV, hE] at HN
  rw [hV, hE]
  have HR := Lib.hid hR
  clear hR hV hE
  rw [← ByteArray.toList_eq] at HY HN
  by_cases h45 : s.toList = [45]
  · have HV := Lib.hid (HY h45)
    have e1 : (s.toList == [45]) = true := by simpa using h45
    clear HY HN h45
    go_enter Try.func9, Try.ntmps9
    go_wp2
    go_ret2
    exact ⟨by rw [HV.out.1, HV.out.2]; rfl, Below.refl _ _⟩
  · have HN := Lib.hid (HN h45)
    have e1 : (s.toList == [45]) = false := by simpa using h45
    clear HY h45
    go_enter Try.func9, Try.ntmps9
    go_wp2
    go_loopw [4, 5] (fun v l wr => ∃ (pos m : Nat) (last : Int), Aside (wr.heap[w.heap.size]? = some (.stringIter s pos)) ∧ Below w.heap.size w wr ∧ v = .int .i64 m ∧ l = .int .i64 last ∧ m < 256 ∧ (-1 ≤ last ∧ last < 8) ∧ Aside (runR (runes s pos) m last = R)) (fun _ _ wr => s.size - wr.iterPos w.heap.size)
    case atStart => exact ⟨0, 0, -1, World.iter_heap _ _ _, iter_below _ _ _, rfl, rfl, by omega, by omega, HR.out⟩
    case round =>
      obtain ⟨pos, m, last, HK, hb, rfl, rfl, hm, hl, HO⟩ := hrel
      have HP := Lib.hid (iterPos_is HK.out)
      by_cases hlt : pos < s.size
      · have hnx : ∀ ty, (Instr.next (.pointer (some ⟨w.heap.size, 0, none⟩)) true ty).run Try.prog wr = _ := fun ty => run_next_any_at wr w.heap.size s pos ty HK.out hlt
        have hO := HO.out
        rw [runes_next s pos hlt] at hO
        have hwd := width_pos s pos hlt
        have hr2 : ((Utf8.decode s pos).1 : Int) ≤ 2147483647 := by have := decode_le s pos; omega
        have hr0 : 0 ≤ ((Utf8.decode s pos).1 : Int) := by omega
        obtain ⟨n, hn⟩ : ∃ n, pos + (Utf8.decode s pos).2 = n := ⟨_, rfl⟩
        rw [hn] at hO hnx
        have hpn : pos < n := by omega
        clear hwd hn
        generalize ((Utf8.decode s pos).1 : Int) = r at *
        obtain ⟨hb1, hk1⟩ := iter_step hb HK.out n
        have HK1 := Lib.hid hk1
        clear hk1 HO HK
        by_cases hbad : (r < 48 ∨ 55 < r) ∨ r - 48 ≤ last
        · rw [runR_bad _ _ _ _ hbad] at hO
          have HV := Lib.hid (HN.out.1 hO.symm)
          clear hO HN HR
          by_cases g1 : r < 48
          · go_wp2
            go_ret2
            exact ⟨by rw [HV.out.1, HV.out.2]; rfl, hb1⟩
          · by_cases g2 : 55 < r
            · go_wp2
              go_ret2
              exact ⟨by rw [HV.out.1, HV.out.2]; rfl, hb1⟩
            · have g3 : r - 48 ≤ last := by omega
              have g4 : IntKind.i32.wrap (r - 48) = r - 48 := IntWalk.i32_in _ (by omega)
              clear hbad
              go_wp2
              go_ret2
              exact ⟨by rw [HV.out.1, HV.out.2]; rfl, hb1⟩
        · rw [runR_good _ _ _ _ hbad] at hO
          have g1 : ¬ r < 48 := fun h => hbad (Or.inl (Or.inl h))
          have g2 : ¬ 55 < r := fun h => hbad (Or.inl (Or.inr h))
          have g3 : ¬ r - 48 ≤ last := fun h => hbad (Or.inr h)
          have hW := Lib.hid (rwith_nat m (r - 48) hm)
          have hwl := withN_lt m (r - 48) hm
          generalize withN m (r - 48) = m1 at *
          have hl2 : -1 ≤ r - 48 ∧ r - 48 < 8 := by omega
          have HO2 := Lib.hid hO
          clear hO hbad
          go_wp2_with fail
          refine (hW.out _).mono ?_; rintro e w' ⟨rfl, rfl⟩
          go_wp2
          go_roundw
          case rel => exact ⟨n, m1, r - 48, HK1.out, hb1, rfl, rfl, hwl, hl2, HO2.out⟩
          case measure => rw [iterPos_is HK1.out, HP.out]; omega
      · have hnx : ∀ ty, (Instr.next (.pointer (some ⟨w.heap.size, 0, none⟩)) true ty).run Try.prog wr = _ := fun ty => run_next_end_at wr w.heap.size s pos ty HK.out hlt
        have hO := HO.out
        rw [runes_end s pos hlt] at hO
        have hO2 : R = some m := hO.symm
        have hF := HN.out.2 m hO2
        clear hO HO HN hO2
        by_cases h0 : s.toList = []
        · have HV := Lib.hid (hF.1 h0)
          clear hF
          go_wp2
          go_ret2
          exact ⟨by rw [HV.out.1, HV.out.2]; rfl, hb⟩
        · have HV := Lib.hid (hF.2 h0)
          have h1 : (!s.toList.isEmpty) = true := by simpa using h0
          have h2 : s.toList.isEmpty = false := by simpa using h0
          clear hF
          go_wp2
          go_ret2
          exact ⟨by rw [HV.out.1, HV.out.2]; rfl, hb⟩

end Por
end Go.Proofs.Ytkflphnldnannaa
