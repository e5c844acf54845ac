/-
  What the document's Pad answers.
-/
import Derived.Test.YtanfmghfmmhglaaDoorDigE
namespace Go.Proofs.YtanfmghfmmhglaaDoor
open Go.RowKit
namespace Dig
open Fr Oct

/-- string([]byte{x}), the slice just made. -/
def Conv (x : Int) (b : UInt8) : Prop := ∀ (W : World) (k : Nat), k = W.heap.size →
    (convert 30 9 (.slice (some ⟨k, 0, none⟩) 1 1)).run Tryd.prog (W.alloc (.cells #[.int .u8 x] 5)) = .ok (.string ⟨#[b]⟩) (W.alloc (.cells #[.int .u8 x] 5))

theorem conv_byte (x : Int) (m : Nat) (h : x = (m % 256 : Nat)) : Conv x (UInt8.ofNat m) := by
  intro W k hk
  subst hk
  have := conv_blk (cap := 1) [UInt8.ofNat m] (Bx.Blk.new W (bv [UInt8.ofNat m]) 5)
  have e : bv [UInt8.ofNat m] = [.int .u8 x] := by simp [bv]; omega
  rw [e] at this
  exact this

/-- What stands behind k bytes 0. -/
def midS (s : ByteArray) (k : Nat) : ByteArray := s ++ (⟨#[128]⟩ : ByteArray) ++ (⟨(List.replicate k 0).toArray⟩ : ByteArray)

theorem midS_size (s : ByteArray) (k : Nat) : (midS s k).size = s.size + 1 + k := by
  unfold midS
  simp only [ByteArray.size_append]
  show s.size + 1 + (List.replicate k (0 : UInt8)).toArray.size = _
  simp

theorem midS_zero (s : ByteArray) : midS s 0 = s ++ (⟨#[128]⟩ : ByteArray) := by
  apply ByteArray.ext
  simp [midS]

theorem midS_next (s : ByteArray) (k : Nat) : midS s k ++ (⟨#[0]⟩ : ByteArray) = midS s (k + 1) := by
  unfold midS
  rw [ByteArray.append_assoc]
  congr 1
  apply ByteArray.ext
  simp [List.replicate_succ', -List.toArray_replicate]

theorem rpad_eq (s : ByteArray) (n : Nat) (hn : s.size = n) : midS s (zerosN n) ++ (⟨#[UInt8.ofNat (8 * n / 1)]⟩ : ByteArray) ++ (⟨#[UInt8.ofNat (8 * n / 256)]⟩ : ByteArray) ++ (⟨#[UInt8.ofNat (8 * n / 65536)]⟩ : ByteArray) ++ (⟨#[UInt8.ofNat (8 * n / 16777216)]⟩ : ByteArray) ++ (⟨#[UInt8.ofNat (8 * n / 4294967296)]⟩ : ByteArray) ++ (⟨#[UInt8.ofNat (8 * n / 1099511627776)]⟩ : ByteArray) ++ (⟨#[UInt8.ofNat (8 * n / 281474976710656)]⟩ : ByteArray) ++ (⟨#[UInt8.ofNat (8 * n / 72057594037927936)]⟩ : ByteArray) = ⟨(padL s.data.toList).toArray⟩ := by
  rw [← pad_eq s]
  unfold midS
  simp only [ByteArray.append_assoc]
  rw [hn]
  congr 3
  apply ByteArray.ext
  simp only [lowL, Nat.div_div_eq_div_mul]
  simp

set_option maxHeartbeats 1000000 in
theorem rpad_any (s : ByteArray) (w : World) (hs : s.size ≤ 1048576) :
    Calls Tryd.prog 22 #[.string s] w fun e w' => e = .returned (.string ⟨(padL s.data.toList).toArray⟩) ∧ Below w.heap.size w w' := by
  obtain ⟨n, hn⟩ : ∃ n, s.size = n := ⟨_, rfl⟩
  have E := Lib.hid (rpad_eq s n hn)
  have HN := Lib.hid hn
  have M0 := Lib.hid (midS_zero s)
  rw [hn] at hs
  go_enter Tryd.func22, Tryd.ntmps22
  go_wp2
  go_loop [0] (fun v => ∃ k : Nat, k ≤ zerosN n ∧ v = .string (midS s k)) (fun v => zerosN n + 72 + n - (match v with | .string t => t.size | _ => 0))
  case atStart => exact ⟨0, Nat.zero_le _, by rw [M0.out]⟩
  case round =>
    obtain ⟨k, hk, rfl⟩ := hrel
    have hz := midS_size s k
    have hzn := zerosN_lt n
    by_cases hlt : k = zerosN n
    · have q : (((midS s k).size : Int) % 64 != 56) = false := by rw [hz]; unfold zerosN at hlt; simp; omega
      have hsz : (midS s k).size ≤ 1048712 := by omega
      have E2 := E.out
      rw [← hlt] at E2
      clear hz hlt hk hzn E
      generalize midS s k = t at *
      obtain ⟨b0, hb0⟩ : ∃ b : UInt8, UInt8.ofNat (8 * n / 1) = b := ⟨_, rfl⟩
      obtain ⟨b1, hb1⟩ : ∃ b : UInt8, UInt8.ofNat (8 * n / 256) = b := ⟨_, rfl⟩
      obtain ⟨b2, hb2⟩ : ∃ b : UInt8, UInt8.ofNat (8 * n / 65536) = b := ⟨_, rfl⟩
      obtain ⟨b3, hb3⟩ : ∃ b : UInt8, UInt8.ofNat (8 * n / 16777216) = b := ⟨_, rfl⟩
      obtain ⟨b4, hb4⟩ : ∃ b : UInt8, UInt8.ofNat (8 * n / 4294967296) = b := ⟨_, rfl⟩
      obtain ⟨b5, hb5⟩ : ∃ b : UInt8, UInt8.ofNat (8 * n / 1099511627776) = b := ⟨_, rfl⟩
      obtain ⟨b6, hb6⟩ : ∃ b : UInt8, UInt8.ofNat (8 * n / 281474976710656) = b := ⟨_, rfl⟩
      obtain ⟨b7, hb7⟩ : ∃ b : UInt8, UInt8.ofNat (8 * n / 72057594037927936) = b := ⟨_, rfl⟩
      have cv0 : Conv ((n : Int) * 8 % 256) b0 := by rw [← hb0]; exact conv_byte _ _ (by omega)
      have cv1 : Conv ((n : Int) * 8 / 256 % 256) b1 := by rw [← hb1]; exact conv_byte _ _ (by omega)
      have cv2 : Conv ((n : Int) * 8 / 65536) b2 := by rw [← hb2]; exact conv_byte _ _ (by omega)
      have cv3 : Conv ((n : Int) * 8 / 16777216) b3 := by rw [← hb3]; exact conv_byte _ _ (by omega)
      have cv4 : Conv ((n : Int) * 8 / 4294967296) b4 := by rw [← hb4]; exact conv_byte _ _ (by omega)
      have cv5 : Conv ((n : Int) * 8 / 1099511627776) b5 := by rw [← hb5]; exact conv_byte _ _ (by omega)
      have cv6 : Conv ((n : Int) * 8 / 281474976710656) b6 := by rw [← hb6]; exact conv_byte _ _ (by omega)
      have cv7 : Conv ((n : Int) * 8 / 72057594037927936) b7 := by rw [← hb7]; exact conv_byte _ _ (by omega)
      rw [hb0, hb1, hb2, hb3, hb4, hb5, hb6, hb7] at E2
      clear hb0 hb1 hb2 hb3 hb4 hb5 hb6 hb7
      have EE := Lib.hid E2
      clear E2
      unfold Conv at cv0 cv1 cv2 cv3 cv4 cv5 cv6 cv7
      go_wp2
      refine wp_loop_rounds 9 ?_; rw [rounds_succ]
      go_wp2
      rw [rounds_succ]
      go_wp2
      rw [rounds_succ]
      go_wp2
      rw [rounds_succ]
      go_wp2
      rw [rounds_succ]
      go_wp2
      rw [rounds_succ]
      go_wp2
      rw [rounds_succ]
      go_wp2
      rw [rounds_succ]
      go_wp2
      rw [rounds_succ]
      go_wp2
      go_ret
      exact ⟨ret_str EE.out, Bx.bel_box (Bx.bel_box (Bx.bel_box (Bx.bel_box (Bx.bel_box (Bx.bel_box (Bx.bel_box (Bx.bel_box (Bx.bel_refl _) _) _) _) _) _) _) _) _⟩
    · have q : (((midS s k).size : Int) % 64 != 56) = true := by rw [hz]; unfold zerosN at hk hlt; simp; omega
      have hsz : (midS s k).size ≤ 1048712 := by omega
      have M := Lib.hid (midS_next s k)
      have hz2 := Lib.hid (midS_size s (k + 1))
      have HZ := Lib.hid hz
      clear hz
      have hk2 : k + 1 ≤ zerosN n := by omega
      clear hlt
      go_wp2
      go_round
      case rel => exact ⟨k + 1, hk2, by rw [M.out]⟩
      case measure => rw [M.out]; show _ - (midS s (k + 1)).size < _ - (midS s k).size; have h1 := HZ.out; have h2 := hz2.out; omega

end Dig
end Go.Proofs.YtanfmghfmmhglaaDoor
