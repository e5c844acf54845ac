/-
  What eapol.Bytes, and the document's answer beside it, write of anything; and that they change nothing that was there.
-/
import Derived.Test.YtdnpmajehnddkaaEplA
namespace Go.Proofs.Ytdnpmajehnddkaa
open Go.RowKit
namespace Epl
open Oct Mac Eth

theorem bytes_wrong (v t : Int) (b : ByteArray) (w : World)
    (HR : Hid (∀ w, Calls Try.prog 13 #[ep v t b] w fun e w' => e = .returned (.bool false) ∧ Below w.heap.size w w')) :
    Calls Try.prog 7 #[ep v t b] w fun e w' => e = .returned (.tuple #[.string ⟨#[]⟩, .int .i64 1]) ∧ Below w.heap.size w w' := by
  go_enter Try.func7, Try.ntmps7
  go_wp2_with fail
  refine (HR.out _).mono ?_; rintro e w1 ⟨rfl, hb1⟩
  go_wp2_with fail
  go_ret2
  exact ⟨rfl, then_below (box_below _ _) hb1⟩

theorem rbytes_wrong (v t : Int) (b : ByteArray) (w : World)
    (HR : Hid (∀ w, Calls Try.prog 14 #[ep v t b] w fun e w' => e = .returned (.bool false) ∧ Below w.heap.size w w')) :
    Calls Try.prog 8 #[ep v t b] w fun e w' => e = .returned (.tuple #[.string ⟨#[]⟩, .int .i64 1]) ∧ Below w.heap.size w w' := by
  go_enter Try.func8, Try.ntmps8
  go_wp2_with fail
  refine (HR.out _).mono ?_; rintro e w1 ⟨rfl, hb1⟩
  go_wp2_with fail
  go_ret2
  exact ⟨rfl, then_below (box_below _ _) hb1⟩

/-- The cells of one that stands in a block. -/
def Hs (W : World) (k : Nat) (v t : Int) (b : ByteArray) : Prop := W.cell? ⟨k, 0, none⟩ = some (.int .i64 v) ∧ W.cell? ⟨k, 1, none⟩ = some (.int .i64 t) ∧ W.cell? ⟨k, 2, none⟩ = some (.string b)

theorem Hs.keep {W w1 : World} {k : Nat} {v t : Int} {b : ByteArray} (h : Hs W k v t b) (hb : Below W.heap.size W w1) : Hs w1 k v t b := by
  obtain ⟨h0, h1, h2⟩ := h
  exact ⟨keep_cell hb h0, keep_cell hb h1, keep_cell hb h2⟩

theorem Hs.alloc (w : World) (v t : Int) (b : ByteArray) : Hs (w.alloc (Obj.cells #[Value.int IntKind.i64 v, Value.int IntKind.i64 t, Value.string b] 23)) w.heap.size v t b :=
  ⟨by simp, by simp, by simp⟩

theorem Hs.more {W : World} {k : Nat} {v t : Int} {b : ByteArray} (h : Hs W k v t b) (o : Obj) : Hs (W.alloc o) k v t b := h.keep (box_below W o)

theorem conv_two (W : World) (x y : Nat) (hx : x < 256) (hy : y < 256) :
    (convert 43 9 (.slice (some ⟨W.heap.size, 0, none⟩) 2 2)).run Try.prog (W.alloc (Obj.cells #[Value.int IntKind.u8 x, Value.int IntKind.u8 y] 5)) = .ok (.string ⟨#[UInt8.ofNat x, UInt8.ofNat y]⟩) (W.alloc (Obj.cells #[Value.int IntKind.u8 x, Value.int IntKind.u8 y] 5)) := by
  refine run_convert_bytes_back _ 43 9 5 ⟨W.heap.size, 0, none⟩ 2 [UInt8.ofNat x, UInt8.ofNat y] Try.underlying43 Try.underlying5 Try.underlying9 fun j hj => ?_
  match j, hj with
  | 0, _ => simp [Addr.add]; omega
  | 1, _ => simp [Addr.add]; omega

set_option maxHeartbeats 400000 in
theorem bytes_right (v t : Nat) (b P : ByteArray) (w : World) (hv : v < 256) (ht : t < 256) (hb : b.size ≤ 1024) (zP : P.size = 2)
    (HR : Hid (∀ w, Calls Try.prog 13 #[ep v t b] w fun e w' => e = .returned (.bool true) ∧ Below w.heap.size w w'))
    (HP : Hid (∀ w, Calls Try.prog 17 #[.int .u64 b.size, .int .i64 2] w fun e w' => e = .returned (.string P) ∧ Below w.heap.size w w')) :
    Calls Try.prog 7 #[ep v t b] w fun e w' => e = .returned (.tuple #[.string (⟨#[UInt8.ofNat v, UInt8.ofNat t]⟩ ++ P ++ b), .int .i64 0]) ∧ Below w.heap.size w w' := by
  go_enter Try.func7, Try.ntmps7
  go_wp2_with fail
  refine (HR.out _).mono ?_; rintro e w1 ⟨rfl, hb1⟩
  have bel := then_below (box_below w (Obj.cells #[Value.int IntKind.i64 v, Value.int IntKind.i64 t, Value.string b] 23)) hb1
  obtain ⟨c0, c1, c2⟩ := (Hs.alloc w v t b).keep hb1
  clear hb1
  go_wp2_with fail
  refine (HP.out _).mono ?_; rintro e w2 ⟨rfl, hb2⟩
  have bel := then_below bel hb2
  have c0 := keep_cell hb2 c0
  have c1 := keep_cell hb2 c1
  have c2 := keep_cell hb2 c2
  clear hb2
  have hcv := conv_two w2 v t hv ht
  have d2 := keep_cell (box_below w2 (Obj.cells #[Value.int IntKind.u8 v, Value.int IntKind.u8 t] 5)) c2
  have z1 : ¬ (2 + P.size > 9223372036854775807) := by omega
  have z2 : ¬ (4 + b.size > 9223372036854775807) := by omega
  go_wp2_with fail
  go_ret2
  exact ⟨rfl, bel.alloc bel.size _⟩

set_option maxHeartbeats 1000000 in
theorem rbytes_right (v t : Nat) (b V T P : ByteArray) (w : World) (hv : v < 256) (ht : t < 256) (hb : b.size ≤ 1024) (zV : V.size = 1) (zT : T.size = 1) (zP : P.size = 2)
    (HR : Hid (∀ w, Calls Try.prog 14 #[ep v t b] w fun e w' => e = .returned (.bool true) ∧ Below w.heap.size w w'))
    (HV : Hid (∀ w, Calls Try.prog 18 #[.int .u64 v, .int .i64 1] w fun e w' => e = .returned (.string V) ∧ Below w.heap.size w w'))
    (HT : Hid (∀ w, Calls Try.prog 18 #[.int .u64 t, .int .i64 1] w fun e w' => e = .returned (.string T) ∧ Below w.heap.size w w'))
    (HP : Hid (∀ w, Calls Try.prog 18 #[.int .u64 b.size, .int .i64 2] w fun e w' => e = .returned (.string P) ∧ Below w.heap.size w w')) :
    Calls Try.prog 8 #[ep v t b] w fun e w' => e = .returned (.tuple #[.string (V ++ T ++ P ++ b), .int .i64 0]) ∧ Below w.heap.size w w' := by
  have z1 : ¬ (4 + b.size > 9223372036854775807) := by omega
  have q1 : IntKind.u64.wrap (v : Int) = v := by rw [IntKind.wrap_u64]; omega
  have q2 : IntKind.u64.wrap (t : Int) = t := by rw [IntKind.wrap_u64]; omega
  have q3 : IntKind.u64.wrap (b.size : Int) = b.size := by rw [IntKind.wrap_u64]; omega
  go_enter Try.func8, Try.ntmps8
  go_wp2_with fail
  refine (HR.out _).mono ?_; rintro e w1 ⟨rfl, hb1⟩
  have bel := then_below (box_below w (Obj.cells #[Value.int IntKind.i64 v, Value.int IntKind.i64 t, Value.string b] 23)) hb1
  obtain ⟨c0, c1, c2⟩ := (Hs.alloc w v t b).keep hb1
  clear hb1
  go_wp2_with fail
  go_region_held3 (fun w' => w'.cell? ⟨w.heap.size, 0, none⟩ = some (.int .i64 v) ∧ w'.cell? ⟨w.heap.size, 1, none⟩ = some (.int .i64 t) ∧ w'.cell? ⟨w.heap.size, 2, none⟩ = some (.string b))
    (first | go_keep | (go_split_ands; exact ⟨keep_cell (by assumption) (by assumption), keep_cell (by assumption) (by assumption), keep_cell (by assumption) (by assumption)⟩))
    (first | (go_at_call 18; with_reducible refine (HV.out _).mono ?_; rintro e w2 ⟨rfl, hb2⟩) | (go_at_call 18; with_reducible refine (HT.out _).mono ?_; rintro e w3 ⟨rfl, hb3⟩) | (go_at_call 18; with_reducible refine (HP.out _).mono ?_; rintro e w4 ⟨rfl, hb4⟩))
  go_wp2
  go_ret2
  exact ⟨rfl, then_below (then_below (bel_drew bel hb2) hb3) hb4⟩

/-- What Bytes answers. -/
def bErr (v t : Int) (b : ByteArray) : Int := if rightE v t b then 0 else 1
def bTxt (v t : Int) (b : ByteArray) : ByteArray := if rightE v t b then wireE v.toNat t.toNat b else ⟨#[]⟩

theorem nats (v t : Int) (b : ByteArray) (h : rightE v t b = true) : ∃ x y : Nat, v = x ∧ t = y ∧ 1 ≤ x ∧ x < 256 ∧ y < 4 ∧ b.size ≤ 1024 := by
  unfold rightE at h
  simp only [decide_eq_true_eq] at h
  exact ⟨v.toNat, t.toNat, by omega, by omega, by omega, by omega, by omega, by omega⟩

theorem bytes_any (v t : Int) (b : ByteArray) (w : World) (hb : b.size ≤ 9223372036854775807) :
    Calls Try.prog 7 #[ep v t b] w fun e w' => e = .returned (.tuple #[.string (bTxt v t b), .int .i64 (bErr v t b)]) ∧ Below w.heap.size w w' := by
  have HR := fun w => right_any v t b w hb
  cases hr : rightE v t b
  · unfold bTxt bErr
    rw [hr] at HR ⊢
    exact bytes_wrong v t b w (Lib.hid HR)
  · obtain ⟨x, y, rfl, rfl, h1, h2, h3, h4⟩ := nats v t b hr
    unfold bTxt bErr
    rw [hr] at HR ⊢
    simp only [if_true, Int.toNat_natCast]
    exact bytes_right x y b _ w h2 (by omega) h4 (by show (putL b.size 2).toArray.size = 2; simp [putL_length]) (Lib.hid HR) (Lib.hid fun w => put_any b.size (by omega) 2 w)

theorem one_byte (x : Nat) : putL x 1 = [UInt8.ofNat x] := rfl

theorem rbytes_any (v t : Int) (b : ByteArray) (w : World) (hb : b.size ≤ 9223372036854775807) :
    Calls Try.prog 8 #[ep v t b] w fun e w' => e = .returned (.tuple #[.string (bTxt v t b), .int .i64 (bErr v t b)]) ∧ Below w.heap.size w w' := by
  have HR := fun w => rright_any v t b w hb
  cases hr : rightE v t b
  · unfold bTxt bErr
    rw [hr] at HR ⊢
    exact rbytes_wrong v t b w (Lib.hid HR)
  · obtain ⟨x, y, rfl, rfl, h1, h2, h3, h4⟩ := nats v t b hr
    unfold bTxt bErr
    rw [hr] at HR ⊢
    simp only [if_true, Int.toNat_natCast]
    have e : wireE x y b = ofL (putL x 1) ++ ofL (putL y 1) ++ ofL (putL b.size 2) ++ b := by
      unfold wireE
      rw [ofL_append (putL x 1)]
      rfl
    rw [e]
    exact rbytes_right x y b _ _ _ w h2 (by omega) h4 (by rw [ofL_size, putL_length]) (by rw [ofL_size, putL_length]) (by rw [ofL_size, putL_length]) (Lib.hid HR) (Lib.hid fun w => rput_any x (by omega) 1 w) (Lib.hid fun w => rput_any y (by omega) 1 w) (Lib.hid fun w => rput_any b.size (by omega) 2 w)

end Epl
end Go.Proofs.Ytdnpmajehnddkaa
