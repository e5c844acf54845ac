/-
  What digest.lengthBytes and digest.Pad answer.
-/
import Derived.Test.YtanfmghfmmhglaaDoorDigD
import Derived.Test.YtanfmghfmmhglaaDoorOct2
namespace Go.Proofs.YtanfmghfmmhglaaDoor
open Go.RowKit
namespace Dig
open Fr Oct

/-- string(b), b a slice of bytes from a block's head on. -/
theorem conv_blk {W : World} {k cap : Nat} (l : List UInt8) (h : Bx.Blk W k (bv l)) : (convert 30 9 (.slice (some ⟨k, 0, none⟩) l.length cap)).run Tryd.prog W = .ok (.string ⟨l.toArray⟩) W := by
  refine run_convert_bytes_back W 30 9 5 ⟨k, 0, none⟩ cap l Tryd.underlying30 Tryd.underlying5 Tryd.underlying9 fun j hj => ?_
  have := h j (.int .u8 ((l[j]).toNat : Int)) (by simp [bv, hj])
  cases j with
  | zero => simpa [Addr.add] using this
  | succ j => simpa [Addr.add] using this

theorem lowL_length (n k : Nat) : (lowL n k).length = k := by
  induction k generalizing n with
  | zero => rfl
  | succ k ih => simp [lowL, ih]

theorem low_cells (n : Nat) (hn : n ≤ 1048576) : bv (lowL (8 * n) 8) = [Value.int IntKind.u8 (8 * (n : Int) % 256), Value.int IntKind.u8 (8 * (n : Int) / 256 % 256),
                Value.int IntKind.u8 (8 * (n : Int) / 65536), Value.int IntKind.u8 (8 * (n : Int) / 16777216),
                Value.int IntKind.u8 (8 * (n : Int) / 4294967296), Value.int IntKind.u8 (8 * (n : Int) / 1099511627776),
                Value.int IntKind.u8 (8 * (n : Int) / 281474976710656),
                Value.int IntKind.u8 (8 * (n : Int) / 72057594037927936)] := by
  simp only [lowL, bv, List.map_cons, List.map_nil, UInt8.toNat_ofNat', List.cons.injEq, Value.int.injEq, true_and, and_true]
  omega

set_option maxHeartbeats 1000000 in
theorem len_any (s : ByteArray) (w : World) (hs : s.size ≤ 1048576) :
    Calls Tryd.prog 49 #[.string s] w fun e w' => e = .returned (.string ⟨(lowL (8 * s.size) 8).toArray⟩) ∧ Below w.heap.size w w' := by
  have hcv := conv_blk (cap := 8) (lowL (8 * s.size) 8) (Bx.Blk.new w (bv (lowL (8 * s.size) 8)) 83)
  rw [lowL_length, low_cells s.size hs] at hcv
  go_enter Tryd.func49, Tryd.ntmps49
  go_wp2
  refine wp_loop_rounds 9 ?_; rw [rounds_succ]
  go_wp2
  rw [rounds_succ]
  go_wp2
  rw [rounds_succ]
  go_wp2
  rw [rounds_succ]
  go_wp2
  rw [rounds_succ]
  go_wp2
  rw [rounds_succ]
  go_wp2
  rw [rounds_succ]
  go_wp2
  rw [rounds_succ]
  go_wp2
  rw [rounds_succ]
  go_wp2
  go_ret
  exact ⟨rfl, Bx.box_below _ _⟩

theorem ret_str {a b : ByteArray} (h : a = b) : Ending.returned (.string a) = .returned (.string b) := by rw [h]

theorem zerosN_int (n : Nat) : ((119 - (n : Int) % 64) % 64) = (zerosN n : Int) := by unfold zerosN; omega

theorem zerosN_lt (n : Nat) : zerosN n < 64 := by unfold zerosN; omega

theorem pad_eq (s : ByteArray) : s ++ (⟨#[128]⟩ : ByteArray) ++ (⟨(List.replicate (zerosN s.size) 0).toArray⟩ : ByteArray) ++ (⟨(lowL (8 * s.size) 8).toArray⟩ : ByteArray) = ⟨(padL s.data.toList).toArray⟩ := by
  apply ByteArray.ext
  simp [padL]

set_option maxHeartbeats 1000000 in
theorem dpad_any (s : ByteArray) (w : World) (hs : s.size ≤ 1048576) :
    Calls Tryd.prog 34 #[.string s] w fun e w' => e = .returned (.string ⟨(padL s.data.toList).toArray⟩) ∧ Below w.heap.size w w' := by
  have E := Lib.hid (pad_eq s)
  obtain ⟨c, hc⟩ : ∃ c, zerosN s.size = c := ⟨_, rfl⟩
  have hc' : c < 64 := by rw [← hc]; exact zerosN_lt _
  have hz := zerosN_int s.size
  rw [hc] at hz E
  clear hc
  have HR := fun w => Tryd.strings_Repeat ⟨#[0]⟩ c w (by omega) (by show 1 * c ≤ _; omega)
  simp only [repeat_zero] at HR
  have HR' := Lib.hid HR
  clear HR
  have HL := Lib.hid (fun w => len_any s w hs)
  have hl1 : (List.replicate c (0 : UInt8)).length = c := by simp
  have hl2 : (lowL (8 * s.size) 8).length = 8 := lowL_length _ _
  generalize hR : (List.replicate c (0 : UInt8)) = R at *
  generalize hT : (lowL (8 * s.size) 8) = T at *
  clear hR hT
  go_enter Tryd.func34, Tryd.ntmps34
  go_wp2_with fail
  refine (HR'.out _).mono ?_
  rintro e w1 ⟨rfl, hb1⟩
  go_wp2_with fail
  refine (HL.out _).mono ?_
  rintro e w2 ⟨rfl, hb2⟩
  go_wp2_with fail
  go_ret
  exact ⟨ret_str E.out, Bx.then_below hb1 hb2⟩

end Dig
end Go.Proofs.YtanfmghfmmhglaaDoor
