/-
  The law MacOrder returns true for every two addresses, in every memory that holds the table of reserved addresses, and changes nothing that was there.
-/
import Derived.Test.YtjljfigppbahfaaDoorMacAwake
namespace Go.Proofs.YtjljfigppbahfaaDoor
open Go.RowKit
namespace Mac
open Oct Fr

theorem txtS_size (x : Nat) : (txtS x).size = 17 := by
  unfold txtS
  rw [size_mk, txt_length6 _ (putL_length _ _)]

theorem txtS_list (x : Nat) : (txtS x).toList = txt (putL x 6) := by
  rw [Lib.toList_data]; rfl

set_option maxHeartbeats 400000 in
theorem order_core (a b x y : Nat) (s t : ByteArray) (p q : Bool) (w : World) (hw : Home w)
    (hx : bits .and .u64 (a : Int) 281474976710655 = (x : Int)) (hy : bits .and .u64 (b : Int) 281474976710655 = (y : Int))
    (T1 : Hid (∀ w, Calls Tryd.prog 20 #[.int .u64 x] w fun e w' => e = .returned (.string s) ∧ Below w.heap.size w w'))
    (T2 : Hid (∀ w, Calls Tryd.prog 20 #[.int .u64 y] w fun e w' => e = .returned (.string t) ∧ Below w.heap.size w w'))
    (h1 : decide (x < y) = p) (h2 : Op.bytesLess s.toList t.toList = p) (h3 : ((x : Int) == (y : Int)) = q) (h4 : (s.toList == t.toList) = q) (h5 : ((s.size : Int) == 17) = true) :
    Calls Tryd.prog 6 #[.int .u64 a, .int .u64 b] w fun e w' => e = .returned (.bool true) ∧ Below w.heap.size w w' := by
  go_enter Tryd.func6, Tryd.ntmps6
  go_wp2_with fail
  refine (T1.out _).mono ?_; rintro e w1 ⟨rfl, hb1⟩
  go_wp2_with fail
  refine (T2.out _).mono ?_; rintro e w2 ⟨rfl, hb2⟩
  have HB := Lib.hid (below_then hb1 hb2)
  clear hb1 hb2
  go_wp2_with fail
  refine (mawake_any _ (hw.below HB.out)).mono ?_; rintro e w3 ⟨rfl, hb3⟩
  go_wp2_with fail
  go_ret
  exact ⟨rfl, below_then HB.out hb3⟩

theorem law_order (a b : Nat) (ha : a < 18446744073709551616) (hb : b < 18446744073709551616) (w : World) (hw : Home w) :
    Calls Tryd.prog 6 #[.int .u64 a, .int .u64 b] w fun e w' => e = .returned (.bool true) ∧ Below w.heap.size w w' := by
  have h1 : a % 281474976710656 < 281474976710656 := by omega
  have h2 : b % 281474976710656 < 281474976710656 := by omega
  refine order_core a b (a % 281474976710656) (b % 281474976710656) (txtS (a % 281474976710656)) (txtS (b % 281474976710656)) _ (decide (a % 281474976710656 = b % 281474976710656)) w hw (and48 a ha) (and48 b hb) (Lib.hid (text_any _ (by omega))) (Lib.hid (text_any _ (by omega))) rfl ?_ ?_ ?_ ?_
  · rw [txtS_list, txtS_list, order _ _ h1 h2]
  · rw [Bool.eq_iff_iff]
    simp only [beq_iff_eq, decide_eq_true_eq]
    omega
  · rw [txtS_list, txtS_list, text_same _ _ h1 h2]
  · rw [txtS_size]; rfl

end Mac
end Go.Proofs.YtjljfigppbahfaaDoor
