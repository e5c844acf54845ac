/-
  What the document's Text answers, Next and the document's, ports.listed and ports.filled, for every set.
-/
import Derived.Test.YtkflphnldnannaaPorB
namespace Go.Proofs.Ytkflphnldnannaa
open Go.RowKit
namespace Por

/-- string([]byte{..}) of a port's digit, the slice just made. -/
theorem conv_dig (q : Nat) (h : q < 8) : ∀ (W : World) (k : Nat), k = W.heap.size →
    (convert 38 9 (.slice (some ⟨k, 0, none⟩) 1 1)).run Try.prog (W.alloc (.cells #[.int .u8 (48 + (q : Int))] 5)) = .ok (.string ⟨#[dig q]⟩) (W.alloc (.cells #[.int .u8 (48 + (q : Int))] 5)) := by
  intro W k hk
  subst hk
  refine run_convert_bytes_back _ 38 9 5 ⟨W.heap.size, 0, none⟩ 1 [dig q] Try.underlying38 Try.underlying5 Try.underlying9 fun j hj => ?_
  match j, hj with
  | 0, _ => simp [Addr.add, dig]; omega

theorem empty_of (o : ByteArray) (l : List UInt8) (h : o = ⟨l.toArray⟩) : o.toList = l := by
  subst h
  rw [ByteArray.toList_eq]

theorem textB_of (m : Nat) (h : m < 256) (o : ByteArray) (ho : o = ⟨(digL m 8).toArray⟩) : (o.toList = [] → textB m = ⟨#[45]⟩) ∧ (¬ o.toList = [] → textB m = o) := by
  rw [empty_of o _ ho, digL_nil]
  have h1 : listI m 8 = [] ↔ m = 0 := by rw [← List.length_eq_zero_iff]; exact count_zero m h
  rw [h1]
  exact ⟨fun h0 => text_none m h0, fun h0 => by rw [ho]; exact text_some m h0⟩

set_option maxHeartbeats 400000 in
theorem rtext_any (x : Int) (w : World) :
    Calls Try.prog 21 #[.int .i64 x] w fun e w' => e = .returned (.string (textB (low x))) ∧ Below w.heap.size w w' := by
  have hL := Lib.hid (rlist_any x)
  have HA := Lib.hid (list_at (low x))
  have HT := Lib.hid (textB_of (low x) (low_lt x))
  have hlen := listI_len (low x) 8
  have HD := Lib.hid (show (digL (low x) 8).length = (listI (low x) 8).length by simp [digL, listI])
  generalize listI (low x) 8 = l at *
  go_enter Try.func21, Try.ntmps21
  go_wp2_with fail
  refine (hL.out _).mono ?_; rintro e w1 ⟨A, cap, rfl, hI, hb1⟩
  have HI := Lib.hid hI
  clear hI
  go_wp2
  go_loopw [3, 9] (fun v i wr => ∃ (k : Nat) (o : ByteArray), k ≤ l.length ∧ i = .int .i64 k ∧ v = .string o ∧ o.size ≤ k ∧ Aside (o = ⟨((digL (low x) 8).take k).toArray⟩) ∧ Below w1.heap.size w1 wr) (fun _ i _ => l.length - (intOf i).toNat)
  case atStart => exact ⟨0, ⟨#[]⟩, Nat.zero_le _, rfl, rfl, Nat.le_refl _, rfl, Below.refl _ _⟩
  case round =>
    obtain ⟨k, o, hk, rfl, rfl, ho, HO, hb⟩ := hrel
    by_cases hlt : k < l.length
    · obtain ⟨ad, rfl, hab, hc⟩ := (HI.out.below hb).at hlt
      obtain ⟨q, hq, e1, e2⟩ := HA.out k hlt
      rw [e1] at hc
      have hcv := conv_dig q hq
      have HN := Lib.hid (show o ++ (⟨#[dig q]⟩ : ByteArray) = ⟨((digL (low x) 8).take (k + 1)).toArray⟩ by rw [e2, HO.out, app_one])
      have HS := Lib.hid (show (o ++ (⟨#[dig q]⟩ : ByteArray)).size ≤ k + 1 by rw [ByteArray.size_append]; show o.size + 1 ≤ k + 1; omega)
      have hw : IntKind.u8.wrap (48 + (q : Int)) = 48 + (q : Int) := IntWalk.u8_in _ (by omega)
      have hsz : ¬ (o.size + 1 > 9223372036854775807) := by omega
      clear e1 e2
      go_wp2
      go_roundw
      case rel => exact ⟨k + 1, _, by omega, by go_num, rfl, HS.out, HN.out, Bx.bel_box hb _⟩
      case measure => simp [intOf]; omega
    · obtain rfl : k = l.length := by omega
      have hO := HO.out
      rw [← HD.out, List.take_length] at hO
      have hT := HT.out o hO
      have bel := hb1.trans (hb.mono hb1.size)
      by_cases h0 : o.toList = []
      · have HT2 := Lib.hid (hT.1 h0)
        clear hT hO HO
        go_wp2
        go_ret
        exact ⟨by rw [HT2.out]; rfl, bel⟩
      · have h1 : (!o.toList.isEmpty) = true := by simpa using h0
        have h2 : o.toList.isEmpty = false := by simpa using h0
        have HT2 := Lib.hid (hT.2 h0)
        clear hT hO HO
        go_wp2
        go_ret
        exact ⟨by rw [HT2.out]; rfl, bel⟩

set_option maxHeartbeats 400000 in
theorem next_any (x p : Int) (w : World) :
    Calls Try.prog 26 #[.int .i64 x, .int .i64 p] w fun e w' => e = .returned (.int .i64 (nextN (low x) (p % 8).toNat)) ∧ w = w' := by
  obtain ⟨y, hy⟩ : ∃ y, nextN (low x) (p % 8).toNat = y := ⟨_, rfl⟩
  obtain ⟨b0, hb0, hb1⟩ : ∃ b : Nat, p % 8 = (b : Int) ∧ b < 8 := ⟨(p % 8).toNat, by omega, by omega⟩
  rw [hy]
  rw [hb0, Int.toNat_natCast] at hy
  have HY := Lib.hid hy
  have h7 := and7 p
  rw [hb0] at h7
  clear hy hb0
  go_enter Try.func26, Try.ntmps26
  go_wp2
  go_loop [5, 8] (fun v i => ∃ (k f b : Nat), k + f = 8 ∧ i = .int .i64 k ∧ v = .int .i64 b ∧ b < 8 ∧ Aside (nextAux (low x) f b = y)) (fun _ i => 8 - (intOf i).toNat)
  case atStart => exact ⟨0, 8, b0, rfl, rfl, rfl, hb1, HY.out⟩
  case round =>
    obtain ⟨k, f, b, hk, rfl, rfl, hb, HO⟩ := hrel
    by_cases hlt : k < 8
    · obtain ⟨g, rfl⟩ : ∃ g, f = g + 1 := ⟨f - 1, by omega⟩
      obtain ⟨c, hc⟩ : ∃ c, (b + 1) % 8 = c := ⟨_, rfl⟩
      have hc8 : c < 8 := by omega
      have hcz : ((b : Int) + 1) % 8 = (c : Int) := by omega
      have hO := HO.out
      cases hm : hasN (low x) c with
      | true =>
        rw [nextAux_hit _ _ _ _ hc hm] at hO
        have hH := Lib.hid (has_at x c hc8 true hm)
        have HO2 := Lib.hid hO
        clear hO HO hm hc
        have hkk : k + g = 7 := by omega
        clear hk
        go_wp2_with fail
        refine (hH.out _).mono ?_; rintro e w' ⟨rfl, rfl⟩
        go_wp2
        go_ret
        exact ⟨by rw [← HO2.out]; rfl, rfl⟩
      | false =>
        rw [nextAux_miss _ _ _ _ hc hm] at hO
        have hH := Lib.hid (has_at x c hc8 false hm)
        have HO2 := Lib.hid hO
        have HK := Lib.hid (show k + 1 + g = 8 by omega)
        clear hO HO hm hc hk
        go_wp2_with fail
        refine (hH.out _).mono ?_; rintro e w' ⟨rfl, rfl⟩
        go_wp2
        go_round
        case rel => exact ⟨k + 1, g, c, HK.out, by go_num, rfl, hc8, HO2.out⟩
        case measure => simp [intOf]; omega
    · obtain rfl : k = 8 := by omega
      obtain rfl : f = 0 := by omega
      have HO2 := Lib.hid (show (-1 : Int) = y from HO.out)
      clear HO hk
      go_wp2
      go_ret
      exact ⟨by rw [← HO2.out]; rfl, rfl⟩

set_option maxHeartbeats 400000 in
theorem rnext_any (x p : Int) (w : World) :
    Calls Try.prog 27 #[.int .i64 x, .int .i64 p] w fun e w' => e = .returned (.int .i64 (nextN (low x) (p % 8).toNat)) ∧ w = w' := by
  obtain ⟨y, hy⟩ : ∃ y, nextN (low x) (p % 8).toNat = y := ⟨_, rfl⟩
  obtain ⟨b, hb0, hb1⟩ : ∃ b : Nat, p % 8 = (b : Int) ∧ b < 8 := ⟨(p % 8).toNat, by omega, by omega⟩
  rw [hy]
  rw [hb0, Int.toNat_natCast, ← rnext_is _ _ (low_lt x) hb1] at hy
  have HY := Lib.hid hy
  have h7 := and7 p
  rw [hb0] at h7
  clear hy hb0
  go_enter Try.func27, Try.ntmps27
  go_wp2
  go_loop [5] (fun i => ∃ (k f : Nat), k + f = 9 ∧ 1 ≤ k ∧ i = .int .i64 k ∧ Aside (rnextAux (low x) b f k = y)) (fun i => 9 - (intOf i).toNat)
  case atStart => exact ⟨1, 8, rfl, by omega, rfl, HY.out⟩
  case round =>
    obtain ⟨k, f, hk, hk1, rfl, HO⟩ := hrel
    by_cases hlt : k ≤ 8
    · obtain ⟨g, rfl⟩ : ∃ g, f = g + 1 := ⟨f - 1, by omega⟩
      obtain ⟨c, hc⟩ : ∃ c, (b + k) % 8 = c := ⟨_, rfl⟩
      have hc8 : c < 8 := by omega
      have hcz : bits BinOp.and IntKind.i64 ((b : Int) + (k : Int)) 7 = (c : Int) := by rw [and7]; omega
      have hO := HO.out
      cases hm : hasN (low x) c with
      | true =>
        rw [rnextAux_hit _ _ _ _ _ hc hm] at hO
        have hH := Lib.hid (rhas_at x c hc8 true hm)
        have HO2 := Lib.hid hO
        clear hO HO hm hc hk
        go_wp2_with fail
        refine (hH.out _).mono ?_; rintro e w' ⟨rfl, rfl⟩
        go_wp2
        go_ret
        exact ⟨by rw [← HO2.out]; rfl, rfl⟩
      | false =>
        rw [rnextAux_miss _ _ _ _ _ hc hm] at hO
        have hH := Lib.hid (rhas_at x c hc8 false hm)
        have HO2 := Lib.hid hO
        have HK := Lib.hid (show k + 1 + g = 9 by omega)
        clear hO HO hm hc hk
        go_wp2_with fail
        refine (hH.out _).mono ?_; rintro e w' ⟨rfl, rfl⟩
        go_wp2
        go_round
        case rel => exact ⟨k + 1, g, HK.out, by omega, by go_num, HO2.out⟩
        case measure => simp [intOf]; omega
    · obtain rfl : k = 9 := by omega
      obtain rfl : f = 0 := by omega
      have HO2 := Lib.hid (show (-1 : Int) = y from HO.out)
      clear HO hk
      go_wp2
      go_ret
      exact ⟨by rw [← HO2.out]; rfl, rfl⟩

theorem listed_any (o it : ByteArray) (w : World) (ho : o.size ≤ 1000) (hi : it.size ≤ 1000) :
    Calls Try.prog 32 #[.string o, .string it] w fun e w' => e = .returned (.string ⟨(listedL o.data.toList it.data.toList).toArray⟩) ∧ w = w' := by
  by_cases h0 : o.toList = []
  · have HT := Lib.hid (show it = ⟨(listedL o.data.toList it.data.toList).toArray⟩ by
      rw [ByteArray.toList_eq] at h0
      unfold listedL
      rw [if_pos h0])
    go_enter Try.func32, Try.ntmps32
    go_wp2
    go_ret
    exact ⟨by rw [← HT.out]; rfl, rfl⟩
  · have h1 : (!o.toList.isEmpty) = true := by simpa using h0
    have h2 : o.toList.isEmpty = false := by simpa using h0
    have HT := Lib.hid (show o ++ (⟨#[44]⟩ : ByteArray) ++ it = ⟨(listedL o.data.toList it.data.toList).toArray⟩ by
      rw [ByteArray.toList_eq] at h0
      unfold listedL
      rw [if_neg h0]
      apply ByteArray.ext
      simp)
    have z1 : ¬ (o.size + 1 > 9223372036854775807) := by omega
    have z2 : ¬ (o.size + 1 + it.size > 9223372036854775807) := by omega
    go_enter Try.func32, Try.ntmps32
    go_wp2
    go_ret
    exact ⟨by rw [← HT.out]; rfl, rfl⟩

theorem with_nat (m : Nat) (p : Int) (hm : m < 256) (w : World) :
    Calls Try.prog 14 #[.int .i64 m, .int .i64 p] w fun e w' => e = .returned (.int .i64 (withN m p : Nat)) ∧ w = w' := by
  have := with_any m p w
  rw [withI_nat m p hm] at this
  exact this

theorem rwith_nat (m : Nat) (p : Int) (hm : m < 256) (w : World) :
    Calls Try.prog 15 #[.int .i64 m, .int .i64 p] w fun e w' => e = .returned (.int .i64 (withN m p : Nat)) ∧ w = w' := by
  have := rwith_any m p w
  rw [withI_nat m p hm] at this
  exact this

set_option maxHeartbeats 400000 in
theorem filled_any (a t : Int) (ht : t < 8) (w : World) :
    Calls Try.prog 31 #[.int .i64 a, .int .i64 t] w fun e w' => e = .returned (.int .i64 (fillN a t : Nat)) ∧ w = w' := by
  obtain ⟨y, hy⟩ : ∃ y, fillN a t = y := ⟨_, rfl⟩
  rw [hy]
  have HY := Lib.hid hy
  clear hy
  have h0 := Lib.hid (with_nat 0 t (by decide))
  have hlt := withN_lt 0 t (by decide)
  unfold fillN at HY
  generalize withN 0 t = m0 at *
  go_enter Try.func31, Try.ntmps31
  go_wp2_with fail
  refine (h0.out _).mono ?_; rintro e w' ⟨rfl, rfl⟩
  go_wp2
  go_loop [5, 6] (fun v i => ∃ (m f : Nat) (p : Int), (0 ≤ p → t - p ≤ f) ∧ i = .int .i64 p ∧ v = .int .i64 m ∧ m < 256 ∧ Aside (fillF f m p t = y)) (fun _ i => (8 - intOf i).toNat)
  case atStart => exact ⟨m0, 8, a, by omega, rfl, rfl, hlt, HY.out⟩
  case round =>
    obtain ⟨m, f, p, hf, rfl, rfl, hm, HO⟩ := hrel
    have hR := Lib.hid (right_any p)
    have hO := HO.out
    by_cases hp : 0 ≤ p ∧ p < 8
    · rw [decide_eq_true hp] at hR
      by_cases hq : p < t
      · obtain ⟨g, rfl⟩ : ∃ g, f = g + 1 := ⟨f - 1, by omega⟩
        have hO2 : fillF g (withN m p) (p + 1) t = y := by
          simp only [fillF] at hO
          rw [if_pos ⟨hp, hq⟩] at hO
          exact hO
        have HO2 := Lib.hid hO2
        have hW := Lib.hid (with_nat m p hm)
        have hwl := withN_lt m p hm
        have HF := Lib.hid (show 0 ≤ p + 1 → t - (p + 1) ≤ g by omega)
        generalize withN m p = m1 at *
        obtain ⟨hp0, hp1⟩ := hp
        clear hO hO2 HO hf
        go_wp2_with fail
        refine (hR.out _).mono ?_; rintro e w' ⟨rfl, rfl⟩
        go_wp2_with fail
        refine (hW.out _).mono ?_; rintro e w' ⟨rfl, rfl⟩
        go_wp2
        go_round
        case rel => exact ⟨m1, g, p + 1, HF.out, rfl, rfl, hwl, HO2.out⟩
        case measure => simp [intOf]; omega
      · rw [fillF_end _ _ _ _ (fun h => hq h.2)] at hO
        have hq2 : t ≤ p := by omega
        have HO2 := Lib.hid hO
        clear hO HO hf hq
        go_wp2_with fail
        refine (hR.out _).mono ?_; rintro e w' ⟨rfl, rfl⟩
        go_wp2
        go_ret
        exact ⟨by rw [← HO2.out]; rfl, rfl⟩
    · rw [decide_eq_false hp] at hR
      rw [fillF_end _ _ _ _ (fun h => hp h.1)] at hO
      have HO2 := Lib.hid hO
      clear hO HO hf hp
      go_wp2_with fail
      refine (hR.out _).mono ?_; rintro e w' ⟨rfl, rfl⟩
      go_wp2
      go_ret
      exact ⟨by rw [← HO2.out]; rfl, rfl⟩

end Por
end Go.Proofs.Ytkflphnldnannaa
