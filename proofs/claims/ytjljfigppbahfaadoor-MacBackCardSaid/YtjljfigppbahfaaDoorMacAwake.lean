/-
  The check of single answers that the statements of layer 2 end with (tipstafflaw02.awake) comes out true in every memory that holds the table of reserved addresses, and changes nothing that was there.
-/
import Derived.Test.YtjljfigppbahfaaDoorMacE
namespace Go.Proofs.YtjljfigppbahfaaDoor
open Go.RowKit
namespace Mac
open Oct Fr

theorem maw1 (w : World) (hw : Home w) : Calls Tryd.prog 8 #[.string ⟨#[48, 49, 58, 56, 48, 58, 99, 50, 58, 48, 48, 58, 48, 48, 58, 48, 51]⟩] w fun e w' => e = .returned (.tuple #[.int .u64 1652522221571, .int .i64 0]) ∧ Below w.heap.size w w' := by
  have h := parse_any ⟨#[48, 49, 58, 56, 48, 58, 99, 50, 58, 48, 48, 58, 48, 48, 58, 48, 51]⟩ w hw (by decide)
  rwa [show parseR (⟨#[48, 49, 58, 56, 48, 58, 99, 50, 58, 48, 48, 58, 48, 48, 58, 48, 51]⟩ : ByteArray).data.toList = (1652522221571, 0) by decide +kernel] at h

theorem maw2 (w : World) (hw : Home w) : Calls Tryd.prog 8 #[.string ⟨#[48, 49, 58, 56, 48, 58, 99, 50, 58, 48, 48, 58, 48, 48, 45, 48, 51]⟩] w fun e w' => e = .returned (.tuple #[.int .u64 0, .int .i64 3]) ∧ Below w.heap.size w w' := by
  have h := parse_any ⟨#[48, 49, 58, 56, 48, 58, 99, 50, 58, 48, 48, 58, 48, 48, 45, 48, 51]⟩ w hw (by decide)
  rwa [show parseR (⟨#[48, 49, 58, 56, 48, 58, 99, 50, 58, 48, 48, 58, 48, 48, 45, 48, 51]⟩ : ByteArray).data.toList = (0, 3) by decide +kernel] at h

theorem maw3 (w : World) : Calls Tryd.prog 10 #[.string ⟨#[120, 0, 0, 0, 0, 1, 2]⟩, .int .i64 1] w fun e w' => e = .returned (.tuple #[.int .u64 258, .int .i64 0]) ∧ w = w' := by
  have h := read_any ⟨#[120, 0, 0, 0, 0, 1, 2]⟩ 1 w (by decide)
  rwa [show getR ⟨#[120, 0, 0, 0, 0, 1, 2]⟩ 1 6 = (258, 0) by decide +kernel] at h

theorem maw4 (w : World) : Calls Tryd.prog 14 #[.int .u64 1652522221571] w fun e w' => e = .returned (.bool true) ∧ w = w' := by
  have h := group_any 1652522221571 (by decide) w
  rwa [show groupB 1652522221571 = true by decide +kernel] at h

theorem maw5 (w : World) (hw : Home w) : Calls Tryd.prog 16 #[.int .u64 1652522221571] w fun e w' => e = .returned (.bool true) ∧ w = w' := by
  have h := reserved_any 1652522221571 w hw
  rwa [show reservedB 1652522221571 = true by decide +kernel] at h

theorem maw6 (w : World) (hw : Home w) : Calls Tryd.prog 16 #[.int .u64 1652522221587] w fun e w' => e = .returned (.bool false) ∧ w = w' := by
  have h := reserved_any 1652522221587 w hw
  rwa [show reservedB 1652522221587 = false by decide +kernel] at h

theorem maw7 (w : World) : Calls Tryd.prog 12 #[.int .u64 1652522221571] w fun e w' => e = .returned (.bool true) ∧ w = w' := by
  have h := right_any 1652522221571 w
  rwa [show rightB 1652522221571 = true by decide +kernel] at h

theorem maw8 (w : World) : Calls Tryd.prog 12 #[.int .u64 281474976710656] w fun e w' => e = .returned (.bool false) ∧ w = w' := by
  have h := right_any 281474976710656 w
  rwa [show rightB 281474976710656 = false by decide +kernel] at h

theorem maw9 (w : World) : Calls Tryd.prog 20 #[.int .u64 1] w fun e w' => e = .returned (.string ⟨#[48, 48, 58, 48, 48, 58, 48, 48, 58, 48, 48, 58, 48, 48, 58, 48, 49]⟩) ∧ Below w.heap.size w w' := by
  have h := text_any 1 (by decide) w
  rwa [show txtS 1 = ⟨#[48, 48, 58, 48, 48, 58, 48, 48, 58, 48, 48, 58, 48, 48, 58, 48, 49]⟩ by decide +kernel] at h

theorem maw10 (w : World) : Calls Tryd.prog 18 #[.int .u64 258] w fun e w' => e = .returned (.string ⟨#[0, 0, 0, 0, 1, 2]⟩) ∧ Below w.heap.size w w' := by
  have h := bytes_any 258 (by decide) w
  rwa [show putL 258 6 = [0, 0, 0, 0, 1, 2] by decide +kernel] at h

set_option maxHeartbeats 400000 in
theorem mawake_any (w : World) (hw : Home w) : Calls Tryd.prog 7 #[] w fun e w' => e = .returned (.bool true) ∧ Below w.heap.size w w' := by
  go_enter Tryd.func7, Tryd.ntmps7
  go_wp2_with fail
  refine (maw1 _ hw).mono ?_; rintro e w1 ⟨rfl, hb1⟩
  have h1 := hw.below hb1
  go_wp2_with fail
  refine (maw2 _ h1).mono ?_; rintro e w2 ⟨rfl, hb2⟩
  have h2 := h1.below hb2
  go_wp2_with fail
  refine (maw3 _).mono ?_; rintro e w' ⟨rfl, rfl⟩
  go_wp2_with fail
  refine (maw4 _).mono ?_; rintro e w' ⟨rfl, rfl⟩
  go_wp2_with fail
  refine (maw5 _ h2).mono ?_; rintro e w' ⟨rfl, rfl⟩
  go_wp2_with fail
  refine (maw6 _ h2).mono ?_; rintro e w' ⟨rfl, rfl⟩
  go_wp2_with fail
  refine (maw7 _).mono ?_; rintro e w' ⟨rfl, rfl⟩
  go_wp2_with fail
  refine (maw8 _).mono ?_; rintro e w' ⟨rfl, rfl⟩
  go_wp2_with fail
  refine (maw9 _).mono ?_; rintro e w3 ⟨rfl, hb3⟩
  go_wp2_with fail
  refine (maw10 _).mono ?_; rintro e w4 ⟨rfl, hb4⟩
  go_wp2_with fail
  go_ret
  exact ⟨rfl, below_then (below_then (below_then hb1 hb2) hb3) hb4⟩

end Mac
end Go.Proofs.YtjljfigppbahfaaDoor
