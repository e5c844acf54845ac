/-
  The check of single answers that the statements of layer 1 end with (tipstafflaw01.awake) comes out true, whatever the memory, and changes nothing that was there.
-/
import Derived.Test.YtdkpplbmkocbfaaOct2
namespace Go.Proofs.Ytdkpplbmkocbfaa
open Go.RowKit
namespace Oct

theorem below_then {a b c : World} (h1 : Below a.heap.size a b) (h2 : Below b.heap.size b c) : Below a.heap.size a c := h1.trans (h2.mono h1.size)

theorem aw1 (w : World) : Calls Try.prog 8 #[.string ⟨#[9, 1, 2]⟩, .int .i64 1, .int .i64 2] w fun e w' => e = .returned (.tuple #[.int .u64 258, .int .i64 0]) ∧ w = w' := by
  have h := get_any ⟨#[9, 1, 2]⟩ 1 2 w (by decide) (by decide)
  rwa [show getR ⟨#[9, 1, 2]⟩ 1 2 = (258, 0) by decide +kernel] at h
theorem aw2 (w : World) : Calls Try.prog 8 #[.string ⟨#[97]⟩, .int .i64 0, .int .i64 2] w fun e w' => e = .returned (.tuple #[.int .u64 0, .int .i64 2]) ∧ w = w' := by
  have h := get_any ⟨#[97]⟩ 0 2 w (by decide) (by decide)
  rwa [show getR ⟨#[97]⟩ 0 2 = (0, 2) by decide +kernel] at h
theorem aw3 (w : World) : Calls Try.prog 10 #[.string ⟨#[97, 98, 99, 100]⟩, .int .i64 1, .int .i64 2] w fun e w' => e = .returned (.tuple #[.string ⟨#[98, 99]⟩, .int .i64 0]) ∧ w = w' := by
  have h := cut_any ⟨#[97, 98, 99, 100]⟩ 1 2 w (by decide) (by decide)
  rwa [show cutS ⟨#[97, 98, 99, 100]⟩ 1 2 = ⟨#[98, 99]⟩ by decide +kernel, show cutE (⟨#[97, 98, 99, 100]⟩ : ByteArray).size 1 2 = 0 by decide +kernel] at h
theorem aw4 (w : World) : Calls Try.prog 12 #[.string ⟨#[97, 98, 48, 102]⟩] w fun e w' => e = .returned (.tuple #[.string ⟨#[171, 15]⟩, .int .i64 0]) ∧ Below w.heap.size w w' := by
  have h := unhex_any ⟨#[97, 98, 48, 102]⟩ w (by decide)
  rwa [show unhexS ⟨#[97, 98, 48, 102]⟩ = ⟨#[171, 15]⟩ by decide +kernel, show unhexE ⟨#[97, 98, 48, 102]⟩ = 0 by decide +kernel] at h
theorem aw5 (w : World) : Calls Try.prog 12 #[.string ⟨#[97, 66]⟩] w fun e w' => e = .returned (.tuple #[.string ⟨#[]⟩, .int .i64 3]) ∧ Below w.heap.size w w' := by
  have h := unhex_any ⟨#[97, 66]⟩ w (by decide)
  rwa [show unhexS ⟨#[97, 66]⟩ = ⟨#[]⟩ by decide +kernel, show unhexE ⟨#[97, 66]⟩ = 3 by decide +kernel] at h
theorem aw6 (w : World) : Calls Try.prog 14 #[.int .u64 258, .int .i64 3] w fun e w' => e = .returned (.string ⟨#[0, 1, 2]⟩) ∧ Below w.heap.size w w' := by
  have h := put_any 258 (by decide) 3 w
  rwa [show putL 258 (clampW 3) = [0, 1, 2] by decide +kernel] at h
theorem aw7 (w : World) : Calls Try.prog 16 #[.string ⟨#[97]⟩, .int .i64 3] w fun e w' => e = .returned (.string ⟨#[97, 0, 0]⟩) ∧ Below w.heap.size w w' := by
  have h := pad_any ⟨#[97]⟩ 3 w (by decide)
  rwa [show padS ⟨#[97]⟩ 3 = ⟨#[97, 0, 0]⟩ by decide +kernel] at h
theorem aw8 (w : World) : Calls Try.prog 20 #[.string ⟨#[97, 98]⟩, .string ⟨#[97, 98]⟩] w fun e w' => e = .returned (.bool true) ∧ Below w.heap.size w w' := by
  have h := same_any ⟨#[97, 98]⟩ ⟨#[97, 98]⟩ w (by decide)
  rwa [show ((⟨#[97, 98]⟩ : ByteArray).data.toList == (⟨#[97, 98]⟩ : ByteArray).data.toList) = true by decide +kernel] at h
theorem aw9 (w : World) : Calls Try.prog 20 #[.string ⟨#[97, 98]⟩, .string ⟨#[97, 66]⟩] w fun e w' => e = .returned (.bool false) ∧ Below w.heap.size w w' := by
  have h := same_any ⟨#[97, 98]⟩ ⟨#[97, 66]⟩ w (by decide)
  rwa [show ((⟨#[97, 98]⟩ : ByteArray).data.toList == (⟨#[97, 66]⟩ : ByteArray).data.toList) = false by decide +kernel] at h
theorem aw10 (w : World) : Calls Try.prog 18 #[.string ⟨#[171]⟩] w fun e w' => e = .returned (.string ⟨#[97, 98]⟩) ∧ Below w.heap.size w w' := by
  have h := hex_any ⟨#[171]⟩ w (by decide)
  rwa [show hexL (⟨#[171]⟩ : ByteArray).data.toList = [97, 98] by decide +kernel] at h

set_option maxHeartbeats 400000 in
theorem awake_any (w : World) : Calls Try.prog 7 #[] w fun e w' => e = .returned (.bool true) ∧ Below w.heap.size w w' := by
  go_enter Try.func7, Try.ntmps7
  go_wp2_with fail
  refine (aw1 _).mono ?_; rintro e w' ⟨rfl, rfl⟩
  go_wp2_with fail
  refine (aw2 _).mono ?_; rintro e w' ⟨rfl, rfl⟩
  go_wp2_with fail
  refine (aw3 _).mono ?_; rintro e w' ⟨rfl, rfl⟩
  go_wp2_with fail
  refine (aw4 _).mono ?_; rintro e w1 ⟨rfl, hb1⟩
  go_wp2_with fail
  refine (aw5 _).mono ?_; rintro e w2 ⟨rfl, hb2⟩
  go_wp2_with fail
  refine (aw6 _).mono ?_; rintro e w3 ⟨rfl, hb3⟩
  go_wp2_with fail
  refine (aw7 _).mono ?_; rintro e w4 ⟨rfl, hb4⟩
  go_wp2_with fail
  refine (aw8 _).mono ?_; rintro e w5 ⟨rfl, hb5⟩
  go_wp2_with fail
  refine (aw9 _).mono ?_; rintro e w6 ⟨rfl, hb6⟩
  go_wp2_with fail
  refine (aw10 _).mono ?_; rintro e w7 ⟨rfl, hb7⟩
  go_wp2_with fail
  go_ret
  exact ⟨rfl, below_then (below_then (below_then (below_then (below_then (below_then hb1 hb2) hb3) hb4) hb5) hb6) hb7⟩

end Oct
end Go.Proofs.Ytdkpplbmkocbfaa
