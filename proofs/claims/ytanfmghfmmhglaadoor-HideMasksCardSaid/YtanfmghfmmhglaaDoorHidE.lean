/-
  What is hidden is shown; and the check of single answers that the statements of layer 12 end with (tipstafflaw12.awake) comes out true, in every memory that holds the tables, and changes nothing that was there.
-/
import Derived.Test.YtanfmghfmmhglaaDoorHidC
namespace Go.Proofs.YtanfmghfmmhglaaDoor
open Go.RowKit
namespace Hd
open Oct Fr Dig

theorem hidE_zero (p a : ByteArray) (he : hidE p a = 0) : p.size ≤ 128 ∧ a.size = 16 := by
  unfold hidE at he
  split at he
  · cases he
  · split at he
    · cases he
    · omega

theorem hidS_size (p sec a : ByteArray) (he : hidE p a = 0) : (hidS p sec a).size = 16 * hidN p := by
  rw [show hidS p sec a = _ from if_pos he]
  exact hideB_size sec _ _ _ (hidP_size p (hidE_zero p a he).1)

theorem hidN_long (p : ByteArray) (h : p.size ≤ 128) : p.size ≤ 16 * hidN p ∧ 16 * hidN p < p.size + 17 := by
  unfold hidN blkN
  omega

theorem back_err (p sec a : ByteArray) (he : hidE p a = 0) : shwE (hidS p sec a) a = 0 := by
  have h1 := hidS_size p sec a he
  have h2 := hidN_one p
  have h3 := (hidE_zero p a he).2
  unfold shwE
  rw [if_neg (by omega), if_neg (by omega)]

/-- P12.5. -/
theorem back_text (p sec a : ByteArray) (he : hidE p a = 0) : shwS (hidS p sec a) sec a = trimB p := by
  have h1 := hidS_size p sec a he
  rw [show shwS (hidS p sec a) sec a = _ from if_pos (back_err p sec a he), h1, show 16 * hidN p / 16 = hidN p by omega, show hidS p sec a = _ from if_pos he,
    show_hide sec _ _ _ (hidP_size p (hidE_zero p a he).1)]
  exact trimB_pad p _

/-- string(make([]byte, 129)). -/
theorem zeros129 (w : World) : ∃ (Z : ByteArray) (w' : World), Z.size = 129 ∧ (Instr.makeSlice 30 (.int .i64 129) (.int .i64 129)).run Tryd.prog w = .ok (.slice (some ⟨w.heap.size, 0, none⟩) 129 129) w' ∧
    (convert 30 9 (.slice (some ⟨w.heap.size, 0, none⟩) 129 129)).run Tryd.prog w' = .ok (.string Z) w' ∧ Below w.heap.size w w' := by
  obtain ⟨w1, h1, h2, h3⟩ := new_zeros 129 (by omega) w
  have h4 := back_row (cap := 129) (n := 129) h2 List.length_replicate
  refine ⟨_, w1, ?_, h1, h4, h3⟩
  show (List.replicate 129 (0 : UInt8)).toArray.size = 129
  rw [List.size_toArray, List.length_replicate]

theorem e17 : hidE ⟨#[97, 32, 112, 97, 115, 115, 119, 111, 114, 100, 32, 111, 102, 32, 49, 55, 33]⟩ ⟨#[48, 49, 50, 51, 52, 53, 54, 55, 56, 57, 97, 98, 99, 100, 101, 102]⟩ = 0 := by decide +kernel
theorem t17 : trimB ⟨#[97, 32, 112, 97, 115, 115, 119, 111, 114, 100, 32, 111, 102, 32, 49, 55, 33]⟩ = ⟨#[97, 32, 112, 97, 115, 115, 119, 111, 114, 100, 32, 111, 102, 32, 49, 55, 33]⟩ := by decide +kernel
theorem n17 : 16 * hidN ⟨#[97, 32, 112, 97, 115, 115, 119, 111, 114, 100, 32, 111, 102, 32, 49, 55, 33]⟩ = 32 := by decide +kernel

/-- What the password of 17 bytes is hidden as. -/
def H17 : ByteArray := hidS ⟨#[97, 32, 112, 97, 115, 115, 119, 111, 114, 100, 32, 111, 102, 32, 49, 55, 33]⟩ ⟨#[115, 101, 99, 114, 101, 116]⟩ ⟨#[48, 49, 50, 51, 52, 53, 54, 55, 56, 57, 97, 98, 99, 100, 101, 102]⟩

theorem H17_size : H17.size = 32 := by
  unfold H17
  rw [hidS_size _ _ _ e17, n17]

theorem aw1 (w : World) (hm : Home w) : Calls Tryd.prog 7 #[.string ⟨#[97, 32, 112, 97, 115, 115, 119, 111, 114, 100, 32, 111, 102, 32, 49, 55, 33]⟩, .string ⟨#[115, 101, 99, 114, 101, 116]⟩, .string ⟨#[48, 49, 50, 51, 52, 53, 54, 55, 56, 57, 97, 98, 99, 100, 101, 102]⟩] w fun e w' => e = .returned (.tuple #[.string H17, .int .i64 0]) ∧ Below w.heap.size w w' := by
  have h := hide_any ⟨#[97, 32, 112, 97, 115, 115, 119, 111, 114, 100, 32, 111, 102, 32, 49, 55, 33]⟩ ⟨#[115, 101, 99, 114, 101, 116]⟩ ⟨#[48, 49, 50, 51, 52, 53, 54, 55, 56, 57, 97, 98, 99, 100, 101, 102]⟩ w (by decide) hm
  rw [e17] at h
  exact h
theorem aw2 (w : World) (hm : Home w) : Calls Tryd.prog 9 #[.string H17, .string ⟨#[115, 101, 99, 114, 101, 116]⟩, .string ⟨#[48, 49, 50, 51, 52, 53, 54, 55, 56, 57, 97, 98, 99, 100, 101, 102]⟩] w fun e w' => e = .returned (.tuple #[.string ⟨#[97, 32, 112, 97, 115, 115, 119, 111, 114, 100, 32, 111, 102, 32, 49, 55, 33]⟩, .int .i64 0]) ∧ Below w.heap.size w w' := by
  have h := show_any H17 ⟨#[115, 101, 99, 114, 101, 116]⟩ ⟨#[48, 49, 50, 51, 52, 53, 54, 55, 56, 57, 97, 98, 99, 100, 101, 102]⟩ w (by rw [H17_size]; decide) (by decide) hm
  unfold H17 at h
  rw [back_err _ _ _ e17, back_text _ _ _ e17, t17] at h
  exact h
theorem aw3 (w : World) (hm : Home w) : Calls Tryd.prog 7 #[.string ⟨#[120]⟩, .string ⟨#[115, 101, 99, 114, 101, 116]⟩, .string ⟨#[115, 104, 111, 114, 116]⟩] w fun e w' => e = .returned (.tuple #[.string ⟨#[]⟩, .int .i64 1]) ∧ Below w.heap.size w w' :=
  hide_any ⟨#[120]⟩ ⟨#[115, 101, 99, 114, 101, 116]⟩ ⟨#[115, 104, 111, 114, 116]⟩ w (by decide) hm
theorem aw4 (w : World) (hm : Home w) : Calls Tryd.prog 9 #[.string ⟨#[120]⟩, .string ⟨#[115, 101, 99, 114, 101, 116]⟩, .string ⟨#[48, 49, 50, 51, 52, 53, 54, 55, 56, 57, 97, 98, 99, 100, 101, 102]⟩] w fun e w' => e = .returned (.tuple #[.string ⟨#[]⟩, .int .i64 1]) ∧ Below w.heap.size w w' :=
  show_any ⟨#[120]⟩ ⟨#[115, 101, 99, 114, 101, 116]⟩ ⟨#[48, 49, 50, 51, 52, 53, 54, 55, 56, 57, 97, 98, 99, 100, 101, 102]⟩ w (by decide) (by decide) hm
theorem aw5 (Z : ByteArray) (hz : Z.size = 129) (w : World) (hm : Home w) : Calls Tryd.prog 7 #[.string Z, .string ⟨#[]⟩, .string ⟨#[48, 49, 50, 51, 52, 53, 54, 55, 56, 57, 97, 98, 99, 100, 101, 102]⟩] w fun e w' => e = .returned (.tuple #[.string ⟨#[]⟩, .int .i64 4]) ∧ Below w.heap.size w w' := by
  have h := hide_any Z ⟨#[]⟩ ⟨#[48, 49, 50, 51, 52, 53, 54, 55, 56, 57, 97, 98, 99, 100, 101, 102]⟩ w (by decide) hm
  have he : hidE Z ⟨#[48, 49, 50, 51, 52, 53, 54, 55, 56, 57, 97, 98, 99, 100, 101, 102]⟩ = 4 := if_pos (by omega)
  rw [show hidS Z ⟨#[]⟩ ⟨#[48, 49, 50, 51, 52, 53, 54, 55, 56, 57, 97, 98, 99, 100, 101, 102]⟩ = ⟨#[]⟩ from if_neg (by rw [he]; decide), he] at h
  exact h
theorem aw6 (w : World) : Calls Tryd.prog 11 #[.string ⟨#[15, 1]⟩, .string ⟨#[3]⟩] w fun e w' => e = .returned (.string ⟨#[12]⟩) ∧ Below w.heap.size w w' := by
  have h := mask_any ⟨#[15, 1]⟩ ⟨#[3]⟩ w (by decide) (by decide)
  rwa [show maskB ⟨#[15, 1]⟩ ⟨#[3]⟩ = ⟨#[12]⟩ by decide +kernel] at h
theorem aw7 (w : World) : Calls Tryd.prog 13 #[.int .i64 0] w fun e w' => e = .returned (.int .i64 1) ∧ w = w' := blocks_any 0 w
theorem aw8 (w : World) : Calls Tryd.prog 13 #[.int .i64 17] w fun e w' => e = .returned (.int .i64 2) ∧ w = w' := blocks_any 17 w
theorem aw9 (w : World) : Calls Tryd.prog 13 #[.int .i64 9999] w fun e w' => e = .returned (.int .i64 8) ∧ w = w' := blocks_any 9999 w

set_option maxHeartbeats 2000000 in
theorem awake_any (w : World) (hm : Home w) : Calls Tryd.prog 6 #[] w fun e w' => e = .returned (.bool true) ∧ Below w.heap.size w w' := by
  have HM := Lib.hid hm
  clear hm
  have hz := H17_size
  have HA1 := Lib.hid aw1
  have HA2 := Lib.hid aw2
  generalize H17 = H at *
  go_enter Tryd.func6, Tryd.ntmps6
  go_wp2_with fail
  refine (HA1.out _ HM.out).mono ?_; rintro e w1 ⟨rfl, hb1⟩
  have H1 := Lib.hid hb1; clear hb1
  go_wp2_with fail
  refine (HA2.out _ (HM.out.below H1.out)).mono ?_; rintro e w2 ⟨rfl, hb2⟩
  have H2 := Lib.hid (Bx.then_below H1.out hb2); clear hb2
  go_wp2_with fail
  refine (aw3 _ (HM.out.below H2.out)).mono ?_; rintro e w3 ⟨rfl, hb3⟩
  have H3 := Lib.hid (Bx.then_below H2.out hb3); clear hb3
  go_wp2_with fail
  refine (aw4 _ (HM.out.below H3.out)).mono ?_; rintro e w4 ⟨rfl, hb4⟩
  have H4 := Lib.hid (Bx.then_below H3.out hb4); clear hb4
  obtain ⟨Z, w5, hZ, hmk, hcv, hb5⟩ := zeros129 w4
  have H5 := Lib.hid (Bx.then_below H4.out hb5); clear hb5
  go_wp2_with fail
  refine (aw5 Z hZ _ (HM.out.below H5.out)).mono ?_; rintro e w6 ⟨rfl, hb6⟩
  have H6 := Lib.hid (Bx.then_below H5.out hb6); clear hb6
  go_wp2_with fail
  refine (aw6 _).mono ?_; rintro e w7 ⟨rfl, hb7⟩
  have H7 := Lib.hid (Bx.then_below H6.out hb7); clear hb7
  go_wp2_with fail
  refine (aw7 _).mono ?_; rintro e w8 ⟨rfl, rfl⟩
  go_wp2_with fail
  refine (aw8 _).mono ?_; rintro e w9 ⟨rfl, rfl⟩
  go_wp2_with fail
  refine (aw9 _).mono ?_; rintro e w10 ⟨rfl, rfl⟩
  go_wp2_with fail
  go_ret
  exact ⟨rfl, H7.out⟩

end Hd
end Go.Proofs.YtanfmghfmmhglaaDoor
