/-
  The check of single answers that the statements of layer 4 end with (tipstafflaw04.awake) comes out true, whatever the memory, and changes nothing that was there.
-/
import Derived.Test.YtdnpmajehnddkaaEplE
namespace Go.Proofs.Ytdnpmajehnddkaa
open Go.RowKit
namespace Epl
open Oct Mac Eth

theorem aw1 (w : World) : Calls Try.prog 7 #[ep 1 1 ⟨#[]⟩] w fun e w' => e = .returned (.tuple #[.string ⟨#[1, 1, 0, 0]⟩, .int .i64 0]) ∧ Below w.heap.size w w' := by
  have h := bytes_any 1 1 ⟨#[]⟩ w (by decide)
  rwa [show bTxt 1 1 ⟨#[]⟩ = ⟨#[1, 1, 0, 0]⟩ by decide +kernel, show bErr 1 1 ⟨#[]⟩ = 0 by decide +kernel] at h
theorem aw2 (w : World) : Calls Try.prog 9 #[.string ⟨#[2, 0, 0, 3, 97, 98, 99, 100]⟩] w fun e w' => e = .returned (.tuple #[ep 2 0 ⟨#[97, 98, 99]⟩, .int .i64 0]) ∧ Below w.heap.size w w' := by
  have h := read_any ⟨#[2, 0, 0, 3, 97, 98, 99, 100]⟩ w (by decide)
  rwa [show eVal ⟨#[2, 0, 0, 3, 97, 98, 99, 100]⟩ = ⟨2, 0, ⟨#[97, 98, 99]⟩⟩ by decide +kernel, show eErr ⟨#[2, 0, 0, 3, 97, 98, 99, 100]⟩ = 0 by decide +kernel] at h
theorem aw3 (w : World) : Calls Try.prog 9 #[.string ⟨#[1, 4, 0, 0]⟩] w fun e w' => e = .returned (.tuple #[ep 0 0 ⟨#[]⟩, .int .i64 10]) ∧ Below w.heap.size w w' := by
  have h := read_any ⟨#[1, 4, 0, 0]⟩ w (by decide)
  rwa [show eVal ⟨#[1, 4, 0, 0]⟩ = zeroE by decide +kernel, show eErr ⟨#[1, 4, 0, 0]⟩ = 10 by decide +kernel] at h
theorem aw4 (w : World) : Calls Try.prog 9 #[.string ⟨#[1, 0, 0, 9, 97]⟩] w fun e w' => e = .returned (.tuple #[ep 0 0 ⟨#[]⟩, .int .i64 2]) ∧ Below w.heap.size w w' := by
  have h := read_any ⟨#[1, 0, 0, 9, 97]⟩ w (by decide)
  rwa [show eVal ⟨#[1, 0, 0, 9, 97]⟩ = zeroE by decide +kernel, show eErr ⟨#[1, 0, 0, 9, 97]⟩ = 2 by decide +kernel] at h
theorem aw5 (w : World) : Calls Try.prog 11 #[.int .u64 5, .int .u64 6, ep 2 0 ⟨#[97, 98, 99]⟩] w fun e w' => e = .returned (.tuple #[fr 6 5 false 0 0 34958 ⟨#[2, 0, 0, 3, 97, 98, 99]⟩, .int .i64 0]) ∧ Below w.heap.size w w' := by
  have h := wrap_any 5 6 2 0 ⟨#[97, 98, 99]⟩ w (by decide)
  have hr : rightE 2 0 ⟨#[97, 98, 99]⟩ = true := by decide +kernel
  rwa [show wVal 5 6 2 0 ⟨#[97, 98, 99]⟩ = fr 6 5 false 0 0 34958 ⟨#[2, 0, 0, 3, 97, 98, 99]⟩ by
      unfold wVal; rw [if_pos ⟨hr, by omega, by omega⟩, show wireE (Int.toNat 2) (Int.toNat 0) ⟨#[97, 98, 99]⟩ = ⟨#[2, 0, 0, 3, 97, 98, 99]⟩ by decide +kernel]; rfl,
    show wErr 5 6 2 0 ⟨#[97, 98, 99]⟩ = 0 by unfold wErr; rw [if_pos ⟨hr, by omega, by omega⟩]] at h
theorem aw6 (w : World) : Calls Try.prog 7 #[ep 1 2 ⟨#[120]⟩] w fun e w' => e = .returned (.tuple #[.string ⟨#[]⟩, .int .i64 1]) ∧ Below w.heap.size w w' := by
  have h := bytes_any 1 2 ⟨#[120]⟩ w (by decide)
  rwa [show bTxt 1 2 ⟨#[120]⟩ = ⟨#[]⟩ by decide +kernel, show bErr 1 2 ⟨#[120]⟩ = 1 by decide +kernel] at h
theorem aw7 (w : World) : Calls Try.prog 13 #[ep 2 0 ⟨#[97, 98, 99]⟩] w fun e w' => e = .returned (.bool true) ∧ Below w.heap.size w w' := by
  have h := right_any 2 0 ⟨#[97, 98, 99]⟩ w (by decide)
  rwa [show rightE 2 0 ⟨#[97, 98, 99]⟩ = true by decide +kernel] at h

set_option maxRecDepth 100000 in
set_option maxHeartbeats 4000000 in
theorem awake_any (w : World) : Calls Try.prog 6 #[] w fun e w' => e = .returned (.bool true) ∧ Below w.heap.size w w' := by
  go_enter Try.func6, Try.ntmps6
  go_wp2_with fail
  refine (start_any _).mono ?_; rintro e w1 ⟨rfl, hb1⟩
  go_wp2_with fail
  refine (aw1 _).mono ?_; rintro e w2 ⟨rfl, hb2⟩
  have bel := then_below hb1 hb2
  clear hb1 hb2
  go_wp2_with fail
  refine (aw2 _).mono ?_; rintro e w3 ⟨rfl, hb3⟩
  have bel := then_below (then_below bel hb3) (box_below w3 (Obj.cells #[Value.int IntKind.i64 2, Value.int IntKind.i64 0, Value.string ⟨#[97, 98, 99]⟩] 23))
  have hx := Hs.alloc w3 2 0 ⟨#[97, 98, 99]⟩
  have HX := Lib.hid hx
  clear hx hb3
  go_wp2_with fail
  refine (aw3 _).mono ?_; rintro e w4 ⟨rfl, hb4⟩
  have bel := then_below (then_below bel hb4) (box_below w4 (Obj.cells #[Value.int IntKind.i64 0, Value.int IntKind.i64 0, Value.string ⟨#[]⟩] 23))
  have HX := Lib.hid ((HX.out.keep hb4).more (Obj.cells #[Value.int IntKind.i64 0, Value.int IntKind.i64 0, Value.string ⟨#[]⟩] 23))
  clear hb4
  go_wp2_with fail
  refine (aw4 _).mono ?_; rintro e w5 ⟨rfl, hb5⟩
  have bel := then_below (then_below bel hb5) (box_below w5 (Obj.cells #[Value.int IntKind.i64 0, Value.int IntKind.i64 0, Value.string ⟨#[]⟩] 23))
  obtain ⟨c0, c1, c2⟩ := ((HX.out.keep hb5).more (Obj.cells #[Value.int IntKind.i64 0, Value.int IntKind.i64 0, Value.string ⟨#[]⟩] 23))
  clear HX hb5
  go_wp2_with fail
  refine (aw5 _).mono ?_; rintro e w6 ⟨rfl, hb6⟩
  have bel := then_below (then_below bel hb6) (box_below w6 (Obj.cells #[Value.int IntKind.u64 6, Value.int IntKind.u64 5, Value.bool false, Value.int IntKind.i64 0, Value.int IntKind.i64 0, Value.int IntKind.i64 34958, Value.string ⟨#[2, 0, 0, 3, 97, 98, 99]⟩] 34))
  have HX := Lib.hid ((Hs.keep ⟨c0, c1, c2⟩ hb6).more (Obj.cells #[Value.int IntKind.u64 6, Value.int IntKind.u64 5, Value.bool false, Value.int IntKind.i64 0, Value.int IntKind.i64 0, Value.int IntKind.i64 34958, Value.string ⟨#[2, 0, 0, 3, 97, 98, 99]⟩] 34))
  have HF := Lib.hid (Has.alloc w6 6 5 false 0 0 34958 ⟨#[2, 0, 0, 3, 97, 98, 99]⟩)
  clear c0 c1 c2 hb6
  go_wp2_with fail
  refine (aw6 _).mono ?_; rintro e w7 ⟨rfl, hb7⟩
  have bel := then_below bel hb7
  obtain ⟨c0, c1, c2⟩ := HX.out.keep hb7
  obtain ⟨f0, f1, f2, f3, f4, f5, f6⟩ := HF.out.keep hb7
  clear HX HF hb7
  go_wp2_with fail
  refine (aw7 _).mono ?_; rintro e w8 ⟨rfl, hb8⟩
  have bel := then_below bel hb8
  go_wp2_with fail
  go_ret
  exact ⟨rfl, bel⟩

end Epl
end Go.Proofs.Ytdnpmajehnddkaa
