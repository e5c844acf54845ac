/-
  What sign.Check and the document's Check find of any packet, authenticator and secret; and that they change nothing that was there.
-/
import Derived.Test.YtaeeonohakkgbaaDoorSigC
namespace Go.Proofs.YtaeeonohakkgbaaDoor
open Go.RowKit
namespace Sig
open Oct Att Pac Key Bx Dig

theorem rT_le (c i : Int) (u : ByteArray) (l : List At) (k : ByteArray) : (rT c i u l k).size ≤ 16 := by
  unfold rT
  split
  · rw [sumS_size]; exact Nat.le_refl _
  · exact Nat.zero_le _

theorem mT_le (c i : Int) (u : ByteArray) (l : List At) (k : ByteArray) : (mT c i u l k).size ≤ 16 := by
  unfold mT
  split
  · rw [key_size]; exact Nat.le_refl _
  · exact Nat.zero_le _

set_option maxRecDepth 20000 in
set_option maxHeartbeats 2000000 in
theorem chk_right (c i : Int) (a u k : ByteArray) (l : List At) (A : Option Addr) (kc : Nat) (w : World) (hA : Ats w A l) (hm : Home w)
    (HR : Hid (∀ w, Ats w A l → Calls Tryd.prog 35 #[pv c i a A l.length kc] w fun e w' => e = .returned (.bool false) ∧ Below w.heap.size w w')) :
    Calls Tryd.prog 16 #[pv c i a A l.length kc, .string u, .string k] w fun e w' => e = .returned (.int .i64 1) ∧ Below w.heap.size w w' := by
  have S0 := Sp.new w c i a A l.length kc
  have HA := Lib.hid hA
  have HM := Lib.hid hm
  clear hA hm
  go_enter Tryd.func16, Tryd.ntmps16
  go_wp2_with fail
  refine (HR.out _ (HA.out.below S0.out.1)).mono ?_; rintro e w1 ⟨rfl, hb1⟩
  have S1 := Sp.keep S0 hb1
  obtain ⟨c0, c1, c2, c3⟩ := S1.out.2.all4
  clear hb1
  go_wp2_with fail
  go_ret
  exact ⟨rfl, S1.out.1⟩

set_option maxRecDepth 20000 in
set_option maxHeartbeats 2000000 in
theorem chk_auth (c i : Int) (a u k : ByteArray) (l : List At) (A : Option Addr) (kc : Nat) (w : World) (hA : Ats w A l) (hm : Home w)
    (HR : Hid (∀ w, Ats w A l → Calls Tryd.prog 35 #[pv c i a A l.length kc] w fun e w' => e = .returned (.bool true) ∧ Below w.heap.size w w'))
    (hu : u.size ≠ 16) :
    Calls Tryd.prog 16 #[pv c i a A l.length kc, .string u, .string k] w fun e w' => e = .returned (.int .i64 1) ∧ Below w.heap.size w w' := by
  have S0 := Sp.new w c i a A l.length kc
  have HA := Lib.hid hA
  have HM := Lib.hid hm
  clear hA hm
  go_enter Tryd.func16, Tryd.ntmps16
  go_wp2_with fail
  refine (HR.out _ (HA.out.below S0.out.1)).mono ?_; rintro e w1 ⟨rfl, hb1⟩
  have S1 := Sp.keep S0 hb1
  obtain ⟨c0, c1, c2, c3⟩ := S1.out.2.all4
  clear hb1
  have hu' : ¬ (u.size : Int) = 16 := by omega
  go_wp2_with fail
  go_ret
  exact ⟨rfl, S1.out.1⟩

set_option maxRecDepth 20000 in
set_option maxHeartbeats 2000000 in
theorem chk_none (c i : Int) (a u k : ByteArray) (l : List At) (A : Option Addr) (kc : Nat) (w : World) (hA : Ats w A l) (hm : Home w)
    (HR : Hid (∀ w, Ats w A l → Calls Tryd.prog 35 #[pv c i a A l.length kc] w fun e w' => e = .returned (.bool true) ∧ Below w.heap.size w w'))
    (hu : u.size = 16)
    (HL : Hid (∀ w, Ats w A l → Calls Tryd.prog 36 #[.slice A l.length kc, .int .i64 80] w (GivesT [] w))) :
    Calls Tryd.prog 16 #[pv c i a A l.length kc, .string u, .string k] w fun e w' => e = .returned (.int .i64 6) ∧ Below w.heap.size w w' := by
  have S0 := Sp.new w c i a A l.length kc
  have HA := Lib.hid hA
  have HM := Lib.hid hm
  clear hA hm
  go_enter Tryd.func16, Tryd.ntmps16
  go_wp2_with fail
  refine (HR.out _ (HA.out.below S0.out.1)).mono ?_; rintro e w1 ⟨rfl, hb1⟩
  have S1 := Sp.keep S0 hb1
  obtain ⟨c0, c1, c2, c3⟩ := S1.out.2.all4
  clear hb1
  go_wp2_with fail
  refine (HL.out _ (HA.out.below S1.out.1)).mono ?_; rintro e w2 ⟨B, kb, rfl, _, h2, hb2⟩
  clear c0 c1 c2 c3
  have S2 := Sp.keep S1 hb2
  obtain ⟨c0, c1, c2, c3⟩ := S2.out.2.all4
  clear hb2
  go_wp2_with fail
  go_ret
  exact ⟨rfl, S2.out.1⟩

set_option maxRecDepth 20000 in
set_option maxHeartbeats 2000000 in
theorem chk_many (c i : Int) (a u k : ByteArray) (l : List At) (A : Option Addr) (kc : Nat) (xs : List ByteArray) (w : World) (hA : Ats w A l) (hm : Home w)
    (HR : Hid (∀ w, Ats w A l → Calls Tryd.prog 35 #[pv c i a A l.length kc] w fun e w' => e = .returned (.bool true) ∧ Below w.heap.size w w'))
    (hu : u.size = 16)
    (hx : 1 < xs.length) (hx2 : xs.length ≤ 1000)
    (HL : Hid (∀ w, Ats w A l → Calls Tryd.prog 36 #[.slice A l.length kc, .int .i64 80] w (GivesT xs w))) :
    Calls Tryd.prog 16 #[pv c i a A l.length kc, .string u, .string k] w fun e w' => e = .returned (.int .i64 3) ∧ Below w.heap.size w w' := by
  have S0 := Sp.new w c i a A l.length kc
  have HA := Lib.hid hA
  have HM := Lib.hid hm
  clear hA hm
  go_enter Tryd.func16, Tryd.ntmps16
  go_wp2_with fail
  refine (HR.out _ (HA.out.below S0.out.1)).mono ?_; rintro e w1 ⟨rfl, hb1⟩
  have S1 := Sp.keep S0 hb1
  obtain ⟨c0, c1, c2, c3⟩ := S1.out.2.all4
  clear hb1
  go_wp2_with fail
  refine (HL.out _ (HA.out.below S1.out.1)).mono ?_; rintro e w2 ⟨B, kb, rfl, _, h2, hb2⟩
  clear c0 c1 c2 c3
  have S2 := Sp.keep S1 hb2
  obtain ⟨c0, c1, c2, c3⟩ := S2.out.2.all4
  clear hb2
  have hx' : (1 : Int) < xs.length := by omega
  have hx3 : ¬ (xs.length : Int) = 0 := by omega
  go_wp2_with fail
  go_ret
  exact ⟨rfl, S2.out.1⟩

set_option maxRecDepth 20000 in
set_option maxHeartbeats 2000000 in
theorem chk_size (c i : Int) (a u k : ByteArray) (l : List At) (A : Option Addr) (kc : Nat) (m : ByteArray) (w : World) (hA : Ats w A l) (hm : Home w)
    (HR : Hid (∀ w, Ats w A l → Calls Tryd.prog 35 #[pv c i a A l.length kc] w fun e w' => e = .returned (.bool true) ∧ Below w.heap.size w w'))
    (hu : u.size = 16)
    (hs : m.size ≠ 16)
    (HL : Hid (∀ w, Ats w A l → Calls Tryd.prog 36 #[.slice A l.length kc, .int .i64 80] w (GivesT [m] w))) :
    Calls Tryd.prog 16 #[pv c i a A l.length kc, .string u, .string k] w fun e w' => e = .returned (.int .i64 3) ∧ Below w.heap.size w w' := by
  have S0 := Sp.new w c i a A l.length kc
  have HA := Lib.hid hA
  have HM := Lib.hid hm
  clear hA hm
  go_enter Tryd.func16, Tryd.ntmps16
  go_wp2_with fail
  refine (HR.out _ (HA.out.below S0.out.1)).mono ?_; rintro e w1 ⟨rfl, hb1⟩
  have S1 := Sp.keep S0 hb1
  obtain ⟨c0, c1, c2, c3⟩ := S1.out.2.all4
  clear hb1
  go_wp2_with fail
  refine (HL.out _ (HA.out.below S1.out.1)).mono ?_; rintro e w2 ⟨B, kb, rfl, _, h2, hb2⟩
  clear c0 c1 c2 c3
  have S2 := Sp.keep S1 hb2
  obtain ⟨c0, c1, c2, c3⟩ := S2.out.2.all4
  clear hb2
  obtain ⟨b, o, rfl, _, t0⟩ := h2 0 m rfl
  rw [Nat.add_zero] at t0
  have H0 := Lib.hid t0
  clear h2
  have hs' : ¬ (m.size : Int) = 16 := by omega
  go_wp2_with fail
  go_ret
  exact ⟨rfl, S2.out.1⟩

set_option maxRecDepth 20000 in
set_option maxHeartbeats 2000000 in
theorem chk_resp (c i : Int) (a u k : ByteArray) (l : List At) (A : Option Addr) (kc : Nat) (m V M : ByteArray) (EV EM : Int) (w : World) (hA : Ats w A l) (hm : Home w)
    (HR : Hid (∀ w, Ats w A l → Calls Tryd.prog 35 #[pv c i a A l.length kc] w fun e w' => e = .returned (.bool true) ∧ Below w.heap.size w w'))
    (hu : u.size = 16)
    (hs : m.size = 16)
    (HL : Hid (∀ w, Ats w A l → Calls Tryd.prog 36 #[.slice A l.length kc, .int .i64 80] w (GivesT [m] w)))
    (HV : Hid (∀ w, Ats w A l → Home w → Calls Tryd.prog 9 #[pv c i a A l.length kc, .string u, .string k] w fun e w' => e = .returned (.tuple #[.string V, .int .i64 EV]) ∧ Below w.heap.size w w'))
    (HW : Hid (∀ w, Ats w A l → Home w → Calls Tryd.prog 7 #[pv c i a A l.length kc, .string u, .string k] w fun e w' => e = .returned (.tuple #[.string M, .int .i64 EM]) ∧ Below w.heap.size w w'))
    (H1 : Hid (∀ w, Calls Tryd.prog 37 #[.string a, .string V] w fun e w' => e = .returned (.bool false) ∧ Below w.heap.size w w')) :
    Calls Tryd.prog 16 #[pv c i a A l.length kc, .string u, .string k] w fun e w' => e = .returned (.int .i64 5) ∧ Below w.heap.size w w' := by
  have S0 := Sp.new w c i a A l.length kc
  have HA := Lib.hid hA
  have HM := Lib.hid hm
  clear hA hm
  go_enter Tryd.func16, Tryd.ntmps16
  go_wp2_with fail
  refine (HR.out _ (HA.out.below S0.out.1)).mono ?_; rintro e w1 ⟨rfl, hb1⟩
  have S1 := Sp.keep S0 hb1
  obtain ⟨c0, c1, c2, c3⟩ := S1.out.2.all4
  clear hb1
  go_wp2_with fail
  refine (HL.out _ (HA.out.below S1.out.1)).mono ?_; rintro e w2 ⟨B, kb, rfl, _, h2, hb2⟩
  clear c0 c1 c2 c3
  have S2 := Sp.keep S1 hb2
  obtain ⟨c0, c1, c2, c3⟩ := S2.out.2.all4
  clear hb2
  obtain ⟨b, o, rfl, _, t0⟩ := h2 0 m rfl
  rw [Nat.add_zero] at t0
  have H0 := Lib.hid t0
  clear h2
  go_wp2_with fail
  refine (HV.out _ (HA.out.below S2.out.1) (HM.out.below S2.out.1)).mono ?_; rintro e w3 ⟨rfl, hb3⟩
  clear c0 c1 c2 c3
  have S3 := Sp.keep S2 hb3
  obtain ⟨c0, c1, c2, c3⟩ := S3.out.2.all4
  have H3 := Lib.hid (keep_cell hb3 H0.out)
  clear t0
  have t0 := H3.out
  clear hb3
  go_wp2_with fail
  refine (HW.out _ (HA.out.below S3.out.1) (HM.out.below S3.out.1)).mono ?_; rintro e w4 ⟨rfl, hb4⟩
  clear c0 c1 c2 c3
  have S4 := Sp.keep S3 hb4
  obtain ⟨c0, c1, c2, c3⟩ := S4.out.2.all4
  have H4 := Lib.hid (keep_cell hb4 H3.out)
  clear t0
  have t0 := H4.out
  clear hb4
  go_wp2_with fail
  refine (H1.out _ ).mono ?_; rintro e w5 ⟨rfl, hb5⟩
  clear c0 c1 c2 c3
  have S5 := Sp.keep S4 hb5
  obtain ⟨c0, c1, c2, c3⟩ := S5.out.2.all4
  have H5 := Lib.hid (keep_cell hb5 H4.out)
  clear t0
  have t0 := H5.out
  clear hb5
  go_wp2_with fail
  go_ret
  exact ⟨rfl, S5.out.1⟩

set_option maxRecDepth 20000 in
set_option maxHeartbeats 2000000 in
theorem chk_msg (c i : Int) (a u k : ByteArray) (l : List At) (A : Option Addr) (kc : Nat) (m V M : ByteArray) (EV EM : Int) (w : World) (hA : Ats w A l) (hm : Home w)
    (HR : Hid (∀ w, Ats w A l → Calls Tryd.prog 35 #[pv c i a A l.length kc] w fun e w' => e = .returned (.bool true) ∧ Below w.heap.size w w'))
    (hu : u.size = 16)
    (hs : m.size = 16)
    (HL : Hid (∀ w, Ats w A l → Calls Tryd.prog 36 #[.slice A l.length kc, .int .i64 80] w (GivesT [m] w)))
    (HV : Hid (∀ w, Ats w A l → Home w → Calls Tryd.prog 9 #[pv c i a A l.length kc, .string u, .string k] w fun e w' => e = .returned (.tuple #[.string V, .int .i64 EV]) ∧ Below w.heap.size w w'))
    (HW : Hid (∀ w, Ats w A l → Home w → Calls Tryd.prog 7 #[pv c i a A l.length kc, .string u, .string k] w fun e w' => e = .returned (.tuple #[.string M, .int .i64 EM]) ∧ Below w.heap.size w w'))
    (H1 : Hid (∀ w, Calls Tryd.prog 37 #[.string a, .string V] w fun e w' => e = .returned (.bool true) ∧ Below w.heap.size w w'))
    (H2 : Hid (∀ w, Calls Tryd.prog 37 #[.string m, .string M] w fun e w' => e = .returned (.bool false) ∧ Below w.heap.size w w')) :
    Calls Tryd.prog 16 #[pv c i a A l.length kc, .string u, .string k] w fun e w' => e = .returned (.int .i64 5) ∧ Below w.heap.size w w' := by
  have S0 := Sp.new w c i a A l.length kc
  have HA := Lib.hid hA
  have HM := Lib.hid hm
  clear hA hm
  go_enter Tryd.func16, Tryd.ntmps16
  go_wp2_with fail
  refine (HR.out _ (HA.out.below S0.out.1)).mono ?_; rintro e w1 ⟨rfl, hb1⟩
  have S1 := Sp.keep S0 hb1
  obtain ⟨c0, c1, c2, c3⟩ := S1.out.2.all4
  clear hb1
  go_wp2_with fail
  refine (HL.out _ (HA.out.below S1.out.1)).mono ?_; rintro e w2 ⟨B, kb, rfl, _, h2, hb2⟩
  clear c0 c1 c2 c3
  have S2 := Sp.keep S1 hb2
  obtain ⟨c0, c1, c2, c3⟩ := S2.out.2.all4
  clear hb2
  obtain ⟨b, o, rfl, _, t0⟩ := h2 0 m rfl
  rw [Nat.add_zero] at t0
  have H0 := Lib.hid t0
  clear h2
  go_wp2_with fail
  refine (HV.out _ (HA.out.below S2.out.1) (HM.out.below S2.out.1)).mono ?_; rintro e w3 ⟨rfl, hb3⟩
  clear c0 c1 c2 c3
  have S3 := Sp.keep S2 hb3
  obtain ⟨c0, c1, c2, c3⟩ := S3.out.2.all4
  have H3 := Lib.hid (keep_cell hb3 H0.out)
  clear t0
  have t0 := H3.out
  clear hb3
  go_wp2_with fail
  refine (HW.out _ (HA.out.below S3.out.1) (HM.out.below S3.out.1)).mono ?_; rintro e w4 ⟨rfl, hb4⟩
  clear c0 c1 c2 c3
  have S4 := Sp.keep S3 hb4
  obtain ⟨c0, c1, c2, c3⟩ := S4.out.2.all4
  have H4 := Lib.hid (keep_cell hb4 H3.out)
  clear t0
  have t0 := H4.out
  clear hb4
  go_wp2_with fail
  refine (H1.out _ ).mono ?_; rintro e w5 ⟨rfl, hb5⟩
  clear c0 c1 c2 c3
  have S5 := Sp.keep S4 hb5
  obtain ⟨c0, c1, c2, c3⟩ := S5.out.2.all4
  have H5 := Lib.hid (keep_cell hb5 H4.out)
  clear t0
  have t0 := H5.out
  clear hb5
  go_wp2_with fail
  refine (H2.out _ ).mono ?_; rintro e w6 ⟨rfl, hb6⟩
  clear c0 c1 c2 c3
  have S6 := Sp.keep S5 hb6
  obtain ⟨c0, c1, c2, c3⟩ := S6.out.2.all4
  clear hb6
  go_wp2_with fail
  go_ret
  exact ⟨rfl, S6.out.1⟩

set_option maxRecDepth 20000 in
set_option maxHeartbeats 2000000 in
theorem chk_ok (c i : Int) (a u k : ByteArray) (l : List At) (A : Option Addr) (kc : Nat) (m V M : ByteArray) (EV EM : Int) (w : World) (hA : Ats w A l) (hm : Home w)
    (HR : Hid (∀ w, Ats w A l → Calls Tryd.prog 35 #[pv c i a A l.length kc] w fun e w' => e = .returned (.bool true) ∧ Below w.heap.size w w'))
    (hu : u.size = 16)
    (hs : m.size = 16)
    (HL : Hid (∀ w, Ats w A l → Calls Tryd.prog 36 #[.slice A l.length kc, .int .i64 80] w (GivesT [m] w)))
    (HV : Hid (∀ w, Ats w A l → Home w → Calls Tryd.prog 9 #[pv c i a A l.length kc, .string u, .string k] w fun e w' => e = .returned (.tuple #[.string V, .int .i64 EV]) ∧ Below w.heap.size w w'))
    (HW : Hid (∀ w, Ats w A l → Home w → Calls Tryd.prog 7 #[pv c i a A l.length kc, .string u, .string k] w fun e w' => e = .returned (.tuple #[.string M, .int .i64 EM]) ∧ Below w.heap.size w w'))
    (H1 : Hid (∀ w, Calls Tryd.prog 37 #[.string a, .string V] w fun e w' => e = .returned (.bool true) ∧ Below w.heap.size w w'))
    (H2 : Hid (∀ w, Calls Tryd.prog 37 #[.string m, .string M] w fun e w' => e = .returned (.bool true) ∧ Below w.heap.size w w')) :
    Calls Tryd.prog 16 #[pv c i a A l.length kc, .string u, .string k] w fun e w' => e = .returned (.int .i64 0) ∧ Below w.heap.size w w' := by
  have S0 := Sp.new w c i a A l.length kc
  have HA := Lib.hid hA
  have HM := Lib.hid hm
  clear hA hm
  go_enter Tryd.func16, Tryd.ntmps16
  go_wp2_with fail
  refine (HR.out _ (HA.out.below S0.out.1)).mono ?_; rintro e w1 ⟨rfl, hb1⟩
  have S1 := Sp.keep S0 hb1
  obtain ⟨c0, c1, c2, c3⟩ := S1.out.2.all4
  clear hb1
  go_wp2_with fail
  refine (HL.out _ (HA.out.below S1.out.1)).mono ?_; rintro e w2 ⟨B, kb, rfl, _, h2, hb2⟩
  clear c0 c1 c2 c3
  have S2 := Sp.keep S1 hb2
  obtain ⟨c0, c1, c2, c3⟩ := S2.out.2.all4
  clear hb2
  obtain ⟨b, o, rfl, _, t0⟩ := h2 0 m rfl
  rw [Nat.add_zero] at t0
  have H0 := Lib.hid t0
  clear h2
  go_wp2_with fail
  refine (HV.out _ (HA.out.below S2.out.1) (HM.out.below S2.out.1)).mono ?_; rintro e w3 ⟨rfl, hb3⟩
  clear c0 c1 c2 c3
  have S3 := Sp.keep S2 hb3
  obtain ⟨c0, c1, c2, c3⟩ := S3.out.2.all4
  have H3 := Lib.hid (keep_cell hb3 H0.out)
  clear t0
  have t0 := H3.out
  clear hb3
  go_wp2_with fail
  refine (HW.out _ (HA.out.below S3.out.1) (HM.out.below S3.out.1)).mono ?_; rintro e w4 ⟨rfl, hb4⟩
  clear c0 c1 c2 c3
  have S4 := Sp.keep S3 hb4
  obtain ⟨c0, c1, c2, c3⟩ := S4.out.2.all4
  have H4 := Lib.hid (keep_cell hb4 H3.out)
  clear t0
  have t0 := H4.out
  clear hb4
  go_wp2_with fail
  refine (H1.out _ ).mono ?_; rintro e w5 ⟨rfl, hb5⟩
  clear c0 c1 c2 c3
  have S5 := Sp.keep S4 hb5
  obtain ⟨c0, c1, c2, c3⟩ := S5.out.2.all4
  have H5 := Lib.hid (keep_cell hb5 H4.out)
  clear t0
  have t0 := H5.out
  clear hb5
  go_wp2_with fail
  refine (H2.out _ ).mono ?_; rintro e w6 ⟨rfl, hb6⟩
  clear c0 c1 c2 c3
  have S6 := Sp.keep S5 hb6
  obtain ⟨c0, c1, c2, c3⟩ := S6.out.2.all4
  clear hb6
  go_wp2_with fail
  go_ret
  exact ⟨rfl, S6.out.1⟩

set_option maxRecDepth 20000 in
set_option maxHeartbeats 2000000 in
theorem rchk_right (c i : Int) (a u k : ByteArray) (l : List At) (A : Option Addr) (kc : Nat) (w : World) (hA : Ats w A l) (hm : Home w)
    (HR : Hid (∀ w, Ats w A l → Calls Tryd.prog 38 #[pv c i a A l.length kc] w fun e w' => e = .returned (.bool false) ∧ Below w.heap.size w w')) :
    Calls Tryd.prog 17 #[pv c i a A l.length kc, .string u, .string k] w fun e w' => e = .returned (.int .i64 1) ∧ Below w.heap.size w w' := by
  have S0 := Sp.new w c i a A l.length kc
  have HA := Lib.hid hA
  have HM := Lib.hid hm
  clear hA hm
  go_enter Tryd.func17, Tryd.ntmps17
  go_wp2_with fail
  refine (HR.out _ (HA.out.below S0.out.1)).mono ?_; rintro e w1 ⟨rfl, hb1⟩
  have S1 := Sp.keep S0 hb1
  obtain ⟨c0, c1, c2, c3⟩ := S1.out.2.all4
  clear hb1
  go_wp2_with fail
  go_ret
  exact ⟨rfl, S1.out.1⟩

set_option maxRecDepth 20000 in
set_option maxHeartbeats 2000000 in
theorem rchk_auth (c i : Int) (a u k : ByteArray) (l : List At) (A : Option Addr) (kc : Nat) (w : World) (hA : Ats w A l) (hm : Home w)
    (HR : Hid (∀ w, Ats w A l → Calls Tryd.prog 38 #[pv c i a A l.length kc] w fun e w' => e = .returned (.bool true) ∧ Below w.heap.size w w'))
    (hu : u.size ≠ 16) :
    Calls Tryd.prog 17 #[pv c i a A l.length kc, .string u, .string k] w fun e w' => e = .returned (.int .i64 1) ∧ Below w.heap.size w w' := by
  have S0 := Sp.new w c i a A l.length kc
  have HA := Lib.hid hA
  have HM := Lib.hid hm
  clear hA hm
  go_enter Tryd.func17, Tryd.ntmps17
  go_wp2_with fail
  refine (HR.out _ (HA.out.below S0.out.1)).mono ?_; rintro e w1 ⟨rfl, hb1⟩
  have S1 := Sp.keep S0 hb1
  obtain ⟨c0, c1, c2, c3⟩ := S1.out.2.all4
  clear hb1
  have hu' : ¬ (u.size : Int) = 16 := by omega
  go_wp2_with fail
  go_ret
  exact ⟨rfl, S1.out.1⟩

set_option maxRecDepth 20000 in
set_option maxHeartbeats 2000000 in
theorem rchk_none (c i : Int) (a u k : ByteArray) (l : List At) (A : Option Addr) (kc : Nat) (w : World) (hA : Ats w A l) (hm : Home w)
    (HR : Hid (∀ w, Ats w A l → Calls Tryd.prog 38 #[pv c i a A l.length kc] w fun e w' => e = .returned (.bool true) ∧ Below w.heap.size w w'))
    (hu : u.size = 16)
    (HL : Hid (∀ w, Ats w A l → Calls Tryd.prog 39 #[.slice A l.length kc, .int .i64 80] w (GivesT [] w))) :
    Calls Tryd.prog 17 #[pv c i a A l.length kc, .string u, .string k] w fun e w' => e = .returned (.int .i64 6) ∧ Below w.heap.size w w' := by
  have S0 := Sp.new w c i a A l.length kc
  have HA := Lib.hid hA
  have HM := Lib.hid hm
  clear hA hm
  go_enter Tryd.func17, Tryd.ntmps17
  go_wp2_with fail
  refine (HR.out _ (HA.out.below S0.out.1)).mono ?_; rintro e w1 ⟨rfl, hb1⟩
  have S1 := Sp.keep S0 hb1
  obtain ⟨c0, c1, c2, c3⟩ := S1.out.2.all4
  clear hb1
  go_wp2_with fail
  refine (HL.out _ (HA.out.below S1.out.1)).mono ?_; rintro e w2 ⟨B, kb, rfl, _, h2, hb2⟩
  clear c0 c1 c2 c3
  have S2 := Sp.keep S1 hb2
  obtain ⟨c0, c1, c2, c3⟩ := S2.out.2.all4
  clear hb2
  go_wp2_with fail
  go_ret
  exact ⟨rfl, S2.out.1⟩

set_option maxRecDepth 20000 in
set_option maxHeartbeats 2000000 in
theorem rchk_many (c i : Int) (a u k : ByteArray) (l : List At) (A : Option Addr) (kc : Nat) (xs : List ByteArray) (w : World) (hA : Ats w A l) (hm : Home w)
    (HR : Hid (∀ w, Ats w A l → Calls Tryd.prog 38 #[pv c i a A l.length kc] w fun e w' => e = .returned (.bool true) ∧ Below w.heap.size w w'))
    (hu : u.size = 16)
    (hx : 1 < xs.length) (hx2 : xs.length ≤ 1000)
    (HL : Hid (∀ w, Ats w A l → Calls Tryd.prog 39 #[.slice A l.length kc, .int .i64 80] w (GivesT xs w))) :
    Calls Tryd.prog 17 #[pv c i a A l.length kc, .string u, .string k] w fun e w' => e = .returned (.int .i64 3) ∧ Below w.heap.size w w' := by
  have S0 := Sp.new w c i a A l.length kc
  have HA := Lib.hid hA
  have HM := Lib.hid hm
  clear hA hm
  go_enter Tryd.func17, Tryd.ntmps17
  go_wp2_with fail
  refine (HR.out _ (HA.out.below S0.out.1)).mono ?_; rintro e w1 ⟨rfl, hb1⟩
  have S1 := Sp.keep S0 hb1
  obtain ⟨c0, c1, c2, c3⟩ := S1.out.2.all4
  clear hb1
  go_wp2_with fail
  refine (HL.out _ (HA.out.below S1.out.1)).mono ?_; rintro e w2 ⟨B, kb, rfl, _, h2, hb2⟩
  clear c0 c1 c2 c3
  have S2 := Sp.keep S1 hb2
  obtain ⟨c0, c1, c2, c3⟩ := S2.out.2.all4
  clear hb2
  have hx' : (1 : Int) < xs.length := by omega
  have hx3 : ¬ (xs.length : Int) = 0 := by omega
  go_wp2_with fail
  go_ret
  exact ⟨rfl, S2.out.1⟩

set_option maxRecDepth 20000 in
set_option maxHeartbeats 2000000 in
theorem rchk_size (c i : Int) (a u k : ByteArray) (l : List At) (A : Option Addr) (kc : Nat) (m : ByteArray) (w : World) (hA : Ats w A l) (hm : Home w)
    (HR : Hid (∀ w, Ats w A l → Calls Tryd.prog 38 #[pv c i a A l.length kc] w fun e w' => e = .returned (.bool true) ∧ Below w.heap.size w w'))
    (hu : u.size = 16)
    (hs : m.size ≠ 16)
    (HL : Hid (∀ w, Ats w A l → Calls Tryd.prog 39 #[.slice A l.length kc, .int .i64 80] w (GivesT [m] w))) :
    Calls Tryd.prog 17 #[pv c i a A l.length kc, .string u, .string k] w fun e w' => e = .returned (.int .i64 3) ∧ Below w.heap.size w w' := by
  have S0 := Sp.new w c i a A l.length kc
  have HA := Lib.hid hA
  have HM := Lib.hid hm
  clear hA hm
  go_enter Tryd.func17, Tryd.ntmps17
  go_wp2_with fail
  refine (HR.out _ (HA.out.below S0.out.1)).mono ?_; rintro e w1 ⟨rfl, hb1⟩
  have S1 := Sp.keep S0 hb1
  obtain ⟨c0, c1, c2, c3⟩ := S1.out.2.all4
  clear hb1
  go_wp2_with fail
  refine (HL.out _ (HA.out.below S1.out.1)).mono ?_; rintro e w2 ⟨B, kb, rfl, _, h2, hb2⟩
  clear c0 c1 c2 c3
  have S2 := Sp.keep S1 hb2
  obtain ⟨c0, c1, c2, c3⟩ := S2.out.2.all4
  clear hb2
  obtain ⟨b, o, rfl, _, t0⟩ := h2 0 m rfl
  rw [Nat.add_zero] at t0
  have H0 := Lib.hid t0
  clear h2
  have hs' : ¬ (m.size : Int) = 16 := by omega
  go_wp2_with fail
  go_ret
  exact ⟨rfl, S2.out.1⟩

set_option maxRecDepth 20000 in
set_option maxHeartbeats 2000000 in
theorem rchk_resp (c i : Int) (a u k : ByteArray) (l : List At) (A : Option Addr) (kc : Nat) (m V : ByteArray) (EV : Int) (w : World) (hA : Ats w A l) (hm : Home w)
    (HR : Hid (∀ w, Ats w A l → Calls Tryd.prog 38 #[pv c i a A l.length kc] w fun e w' => e = .returned (.bool true) ∧ Below w.heap.size w w'))
    (hu : u.size = 16)
    (hs : m.size = 16)
    (HL : Hid (∀ w, Ats w A l → Calls Tryd.prog 39 #[.slice A l.length kc, .int .i64 80] w (GivesT [m] w)))
    (HV : Hid (∀ w, Ats w A l → Home w → Calls Tryd.prog 10 #[pv c i a A l.length kc, .string u, .string k] w fun e w' => e = .returned (.tuple #[.string V, .int .i64 EV]) ∧ Below w.heap.size w w'))
    (H1 : Hid (∀ w, Calls Tryd.prog 40 #[.string V, .string a] w fun e w' => e = .returned (.bool false) ∧ Below w.heap.size w w')) :
    Calls Tryd.prog 17 #[pv c i a A l.length kc, .string u, .string k] w fun e w' => e = .returned (.int .i64 5) ∧ Below w.heap.size w w' := by
  have S0 := Sp.new w c i a A l.length kc
  have HA := Lib.hid hA
  have HM := Lib.hid hm
  clear hA hm
  go_enter Tryd.func17, Tryd.ntmps17
  go_wp2_with fail
  refine (HR.out _ (HA.out.below S0.out.1)).mono ?_; rintro e w1 ⟨rfl, hb1⟩
  have S1 := Sp.keep S0 hb1
  obtain ⟨c0, c1, c2, c3⟩ := S1.out.2.all4
  clear hb1
  go_wp2_with fail
  refine (HL.out _ (HA.out.below S1.out.1)).mono ?_; rintro e w2 ⟨B, kb, rfl, _, h2, hb2⟩
  clear c0 c1 c2 c3
  have S2 := Sp.keep S1 hb2
  obtain ⟨c0, c1, c2, c3⟩ := S2.out.2.all4
  clear hb2
  obtain ⟨b, o, rfl, _, t0⟩ := h2 0 m rfl
  rw [Nat.add_zero] at t0
  have H0 := Lib.hid t0
  clear h2
  go_wp2_with fail
  refine (HV.out _ (HA.out.below S2.out.1) (HM.out.below S2.out.1)).mono ?_; rintro e w3 ⟨rfl, hb3⟩
  clear c0 c1 c2 c3
  have S3 := Sp.keep S2 hb3
  obtain ⟨c0, c1, c2, c3⟩ := S3.out.2.all4
  have H3 := Lib.hid (keep_cell hb3 H0.out)
  clear t0
  have t0 := H3.out
  clear hb3
  go_wp2_with fail
  refine (H1.out _ ).mono ?_; rintro e w4 ⟨rfl, hb4⟩
  clear c0 c1 c2 c3
  have S4 := Sp.keep S3 hb4
  obtain ⟨c0, c1, c2, c3⟩ := S4.out.2.all4
  have H4 := Lib.hid (keep_cell hb4 H3.out)
  clear t0
  have t0 := H4.out
  clear hb4
  go_wp2_with fail
  go_ret
  exact ⟨rfl, S4.out.1⟩

set_option maxRecDepth 20000 in
set_option maxHeartbeats 2000000 in
theorem rchk_msg (c i : Int) (a u k : ByteArray) (l : List At) (A : Option Addr) (kc : Nat) (m V M : ByteArray) (EV EM : Int) (w : World) (hA : Ats w A l) (hm : Home w)
    (HR : Hid (∀ w, Ats w A l → Calls Tryd.prog 38 #[pv c i a A l.length kc] w fun e w' => e = .returned (.bool true) ∧ Below w.heap.size w w'))
    (hu : u.size = 16)
    (hs : m.size = 16)
    (HL : Hid (∀ w, Ats w A l → Calls Tryd.prog 39 #[.slice A l.length kc, .int .i64 80] w (GivesT [m] w)))
    (HV : Hid (∀ w, Ats w A l → Home w → Calls Tryd.prog 10 #[pv c i a A l.length kc, .string u, .string k] w fun e w' => e = .returned (.tuple #[.string V, .int .i64 EV]) ∧ Below w.heap.size w w'))
    (H1 : Hid (∀ w, Calls Tryd.prog 40 #[.string V, .string a] w fun e w' => e = .returned (.bool true) ∧ Below w.heap.size w w'))
    (HW : Hid (∀ w, Ats w A l → Home w → Calls Tryd.prog 8 #[pv c i a A l.length kc, .string u, .string k] w fun e w' => e = .returned (.tuple #[.string M, .int .i64 EM]) ∧ Below w.heap.size w w'))
    (H2 : Hid (∀ w, Calls Tryd.prog 40 #[.string M, .string m] w fun e w' => e = .returned (.bool false) ∧ Below w.heap.size w w')) :
    Calls Tryd.prog 17 #[pv c i a A l.length kc, .string u, .string k] w fun e w' => e = .returned (.int .i64 5) ∧ Below w.heap.size w w' := by
  have S0 := Sp.new w c i a A l.length kc
  have HA := Lib.hid hA
  have HM := Lib.hid hm
  clear hA hm
  go_enter Tryd.func17, Tryd.ntmps17
  go_wp2_with fail
  refine (HR.out _ (HA.out.below S0.out.1)).mono ?_; rintro e w1 ⟨rfl, hb1⟩
  have S1 := Sp.keep S0 hb1
  obtain ⟨c0, c1, c2, c3⟩ := S1.out.2.all4
  clear hb1
  go_wp2_with fail
  refine (HL.out _ (HA.out.below S1.out.1)).mono ?_; rintro e w2 ⟨B, kb, rfl, _, h2, hb2⟩
  clear c0 c1 c2 c3
  have S2 := Sp.keep S1 hb2
  obtain ⟨c0, c1, c2, c3⟩ := S2.out.2.all4
  clear hb2
  obtain ⟨b, o, rfl, _, t0⟩ := h2 0 m rfl
  rw [Nat.add_zero] at t0
  have H0 := Lib.hid t0
  clear h2
  go_wp2_with fail
  refine (HV.out _ (HA.out.below S2.out.1) (HM.out.below S2.out.1)).mono ?_; rintro e w3 ⟨rfl, hb3⟩
  clear c0 c1 c2 c3
  have S3 := Sp.keep S2 hb3
  obtain ⟨c0, c1, c2, c3⟩ := S3.out.2.all4
  have H3 := Lib.hid (keep_cell hb3 H0.out)
  clear t0
  have t0 := H3.out
  clear hb3
  go_wp2_with fail
  refine (H1.out _ ).mono ?_; rintro e w4 ⟨rfl, hb4⟩
  clear c0 c1 c2 c3
  have S4 := Sp.keep S3 hb4
  obtain ⟨c0, c1, c2, c3⟩ := S4.out.2.all4
  have H4 := Lib.hid (keep_cell hb4 H3.out)
  clear t0
  have t0 := H4.out
  clear hb4
  go_wp2_with fail
  refine (HW.out _ (HA.out.below S4.out.1) (HM.out.below S4.out.1)).mono ?_; rintro e w5 ⟨rfl, hb5⟩
  clear c0 c1 c2 c3
  have S5 := Sp.keep S4 hb5
  obtain ⟨c0, c1, c2, c3⟩ := S5.out.2.all4
  have H5 := Lib.hid (keep_cell hb5 H4.out)
  clear t0
  have t0 := H5.out
  clear hb5
  go_wp2_with fail
  refine (H2.out _ ).mono ?_; rintro e w6 ⟨rfl, hb6⟩
  clear c0 c1 c2 c3
  have S6 := Sp.keep S5 hb6
  obtain ⟨c0, c1, c2, c3⟩ := S6.out.2.all4
  clear hb6
  go_wp2_with fail
  go_ret
  exact ⟨rfl, S6.out.1⟩

set_option maxRecDepth 20000 in
set_option maxHeartbeats 2000000 in
theorem rchk_ok (c i : Int) (a u k : ByteArray) (l : List At) (A : Option Addr) (kc : Nat) (m V M : ByteArray) (EV EM : Int) (w : World) (hA : Ats w A l) (hm : Home w)
    (HR : Hid (∀ w, Ats w A l → Calls Tryd.prog 38 #[pv c i a A l.length kc] w fun e w' => e = .returned (.bool true) ∧ Below w.heap.size w w'))
    (hu : u.size = 16)
    (hs : m.size = 16)
    (HL : Hid (∀ w, Ats w A l → Calls Tryd.prog 39 #[.slice A l.length kc, .int .i64 80] w (GivesT [m] w)))
    (HV : Hid (∀ w, Ats w A l → Home w → Calls Tryd.prog 10 #[pv c i a A l.length kc, .string u, .string k] w fun e w' => e = .returned (.tuple #[.string V, .int .i64 EV]) ∧ Below w.heap.size w w'))
    (H1 : Hid (∀ w, Calls Tryd.prog 40 #[.string V, .string a] w fun e w' => e = .returned (.bool true) ∧ Below w.heap.size w w'))
    (HW : Hid (∀ w, Ats w A l → Home w → Calls Tryd.prog 8 #[pv c i a A l.length kc, .string u, .string k] w fun e w' => e = .returned (.tuple #[.string M, .int .i64 EM]) ∧ Below w.heap.size w w'))
    (H2 : Hid (∀ w, Calls Tryd.prog 40 #[.string M, .string m] w fun e w' => e = .returned (.bool true) ∧ Below w.heap.size w w')) :
    Calls Tryd.prog 17 #[pv c i a A l.length kc, .string u, .string k] w fun e w' => e = .returned (.int .i64 0) ∧ Below w.heap.size w w' := by
  have S0 := Sp.new w c i a A l.length kc
  have HA := Lib.hid hA
  have HM := Lib.hid hm
  clear hA hm
  go_enter Tryd.func17, Tryd.ntmps17
  go_wp2_with fail
  refine (HR.out _ (HA.out.below S0.out.1)).mono ?_; rintro e w1 ⟨rfl, hb1⟩
  have S1 := Sp.keep S0 hb1
  obtain ⟨c0, c1, c2, c3⟩ := S1.out.2.all4
  clear hb1
  go_wp2_with fail
  refine (HL.out _ (HA.out.below S1.out.1)).mono ?_; rintro e w2 ⟨B, kb, rfl, _, h2, hb2⟩
  clear c0 c1 c2 c3
  have S2 := Sp.keep S1 hb2
  obtain ⟨c0, c1, c2, c3⟩ := S2.out.2.all4
  clear hb2
  obtain ⟨b, o, rfl, _, t0⟩ := h2 0 m rfl
  rw [Nat.add_zero] at t0
  have H0 := Lib.hid t0
  clear h2
  go_wp2_with fail
  refine (HV.out _ (HA.out.below S2.out.1) (HM.out.below S2.out.1)).mono ?_; rintro e w3 ⟨rfl, hb3⟩
  clear c0 c1 c2 c3
  have S3 := Sp.keep S2 hb3
  obtain ⟨c0, c1, c2, c3⟩ := S3.out.2.all4
  have H3 := Lib.hid (keep_cell hb3 H0.out)
  clear t0
  have t0 := H3.out
  clear hb3
  go_wp2_with fail
  refine (H1.out _ ).mono ?_; rintro e w4 ⟨rfl, hb4⟩
  clear c0 c1 c2 c3
  have S4 := Sp.keep S3 hb4
  obtain ⟨c0, c1, c2, c3⟩ := S4.out.2.all4
  have H4 := Lib.hid (keep_cell hb4 H3.out)
  clear t0
  have t0 := H4.out
  clear hb4
  go_wp2_with fail
  refine (HW.out _ (HA.out.below S4.out.1) (HM.out.below S4.out.1)).mono ?_; rintro e w5 ⟨rfl, hb5⟩
  clear c0 c1 c2 c3
  have S5 := Sp.keep S4 hb5
  obtain ⟨c0, c1, c2, c3⟩ := S5.out.2.all4
  have H5 := Lib.hid (keep_cell hb5 H4.out)
  clear t0
  have t0 := H5.out
  clear hb5
  go_wp2_with fail
  refine (H2.out _ ).mono ?_; rintro e w6 ⟨rfl, hb6⟩
  clear c0 c1 c2 c3
  have S6 := Sp.keep S5 hb6
  obtain ⟨c0, c1, c2, c3⟩ := S6.out.2.all4
  clear hb6
  go_wp2_with fail
  go_ret
  exact ⟨rfl, S6.out.1⟩

/-- Check(p, auth, secret). -/
theorem check_any (c i : Int) (a u k : ByteArray) (ha : a.size ≤ maxLen) (hu : u.size ≤ maxLen) (hk : k.size ≤ 40000) (l : List At) (hl : l.length ≤ 900) (A : Option Addr) (kc : Nat) (w : World) (hA : Ats w A l) (hm : Home w) :
    Calls Tryd.prog 16 #[pv c i a A l.length kc, .string u, .string k] w fun e w' => e = .returned (.int .i64 (chkP c i a l u k)) ∧ Below w.heap.size w w' := by
  have hl2 : l.length ≤ maxLen := by unfold maxLen; omega
  have HR := Lib.hid (fun w hA => Pac.right_any c i a ha l hl2 A kc w hA)
  have HL := Lib.hid (fun w hA => Att.all_any l (by omega) 80 A kc w hA)
  have HV := Lib.hid (fun w hA hm => response_any c i a u k hu hk l hl2 A kc w hA hm)
  have HW := Lib.hid (fun w hA hm => message_any c i a u k hu (by omega) l (by omega) A kc w hA hm)
  have hn := allV_length l 80
  have hVz : (rT c i u l k).size ≤ 16 := rT_le c i u l k
  have hMz : (mT c i u l k).size ≤ 16 := mT_le c i u l k
  unfold chkP
  generalize allV l 80 = xs at *
  generalize rT c i u l k = V at *
  generalize mT c i u l k = M at *
  generalize errP c i u l = EV at *
  generalize mE c i u l = EM at *
  cases hr : rightP c i a l with
  | false =>
    rw [hr] at HR
    rw [if_neg (by intro h; cases h.1)]
    exact chk_right c i a u k l A kc w hA hm HR
  | true =>
    rw [hr] at HR
    by_cases h16 : u.size = 16
    · rw [if_pos ⟨rfl, h16⟩]
      match xs, hn, HL with
      | [], _, HL => exact chk_none c i a u k l A kc w hA hm HR h16 HL
      | x :: y :: t, hn, HL => exact chk_many c i a u k l A kc (x :: y :: t) w hA hm HR h16 (by simp) (by omega) HL
      | [m], _, HL =>
        by_cases hs : m.size = 16
        · have H1 := Lib.hid (fun w => Oct.same_any a V w (show a.size ≤ 9223372036854775807 from ha))
          have H2 := Lib.hid (fun w => Oct.same_any m M w (show m.size ≤ 9223372036854775807 from by omega))
          have e1 : (a.data.toList == V.data.toList) = (a.data.toList == V.data.toList) := rfl
          have e2 : (m.data.toList == M.data.toList) = (m.data.toList == M.data.toList) := rfl
          rw [e1] at H1
          rw [e2] at H2
          simp only [if_pos hs]
          cases b1 : (a.data.toList == V.data.toList) with
          | false =>
            rw [b1] at H1
            exact chk_resp c i a u k l A kc m V M EV EM w hA hm HR h16 hs HL HV HW H1
          | true =>
            rw [b1] at H1
            cases b2 : (m.data.toList == M.data.toList) with
            | false =>
              rw [b2] at H2
              exact chk_msg c i a u k l A kc m V M EV EM w hA hm HR h16 hs HL HV HW H1 H2
            | true =>
              rw [b2] at H2
              exact chk_ok c i a u k l A kc m V M EV EM w hA hm HR h16 hs HL HV HW H1 H2
        · simp only [if_neg hs]
          exact chk_size c i a u k l A kc m w hA hm HR h16 hs HL
    · rw [if_neg (fun h => h16 h.2)]
      exact chk_auth c i a u k l A kc w hA hm HR h16

/-- The document's Check(p, auth, secret). -/
theorem rcheck_any (c i : Int) (a u k : ByteArray) (ha : a.size ≤ maxLen) (hu : u.size ≤ maxLen) (hk : k.size ≤ 40000) (l : List At) (hl : l.length ≤ 900) (A : Option Addr) (kc : Nat) (w : World) (hA : Ats w A l) (hm : Home w) :
    Calls Tryd.prog 17 #[pv c i a A l.length kc, .string u, .string k] w fun e w' => e = .returned (.int .i64 (chkP c i a l u k)) ∧ Below w.heap.size w w' := by
  have hl2 : l.length ≤ maxLen := by unfold maxLen; omega
  have HR := Lib.hid (fun w hA => Pac.rright_any c i a ha l hl2 A kc w hA)
  have HL := Lib.hid (fun w hA => Att.rall_any l (by omega) 80 A kc w hA)
  have HV := Lib.hid (fun w hA (_ : Home w) => rresponse_any c i a u k hu hk l hl2 A kc w hA)
  have HW := Lib.hid (fun w hA (_ : Home w) => rmessage_any c i a u k hu (by omega) l (by omega) A kc w hA)
  have hn := allV_length l 80
  have hVz : (rT c i u l k).size ≤ 16 := rT_le c i u l k
  have hMz : (mT c i u l k).size ≤ 16 := mT_le c i u l k
  unfold chkP
  generalize allV l 80 = xs at *
  generalize rT c i u l k = V at *
  generalize mT c i u l k = M at *
  generalize errP c i u l = EV at *
  generalize mE c i u l = EM at *
  cases hr : rightP c i a l with
  | false =>
    rw [hr] at HR
    rw [if_neg (by intro h; cases h.1)]
    exact rchk_right c i a u k l A kc w hA hm HR
  | true =>
    rw [hr] at HR
    by_cases h16 : u.size = 16
    · rw [if_pos ⟨rfl, h16⟩]
      match xs, hn, HL with
      | [], _, HL => exact rchk_none c i a u k l A kc w hA hm HR h16 HL
      | x :: y :: t, hn, HL => exact rchk_many c i a u k l A kc (x :: y :: t) w hA hm HR h16 (by simp) (by omega) HL
      | [m], _, HL =>
        by_cases hs : m.size = 16
        · have H1 := Lib.hid (fun w => Oct.rsame_any V a w (show V.size ≤ 9223372036854775807 from by omega))
          have H2 := Lib.hid (fun w => Oct.rsame_any M m w (show M.size ≤ 9223372036854775807 from by omega))
          have e1 : (V.data.toList == a.data.toList) = (a.data.toList == V.data.toList) := BEq.comm
          have e2 : (M.data.toList == m.data.toList) = (m.data.toList == M.data.toList) := BEq.comm
          rw [e1] at H1
          rw [e2] at H2
          simp only [if_pos hs]
          cases b1 : (a.data.toList == V.data.toList) with
          | false =>
            rw [b1] at H1
            exact rchk_resp c i a u k l A kc m V EV w hA hm HR h16 hs HL HV H1
          | true =>
            rw [b1] at H1
            cases b2 : (m.data.toList == M.data.toList) with
            | false =>
              rw [b2] at H2
              exact rchk_msg c i a u k l A kc m V M EV EM w hA hm HR h16 hs HL HV H1 HW H2
            | true =>
              rw [b2] at H2
              exact rchk_ok c i a u k l A kc m V M EV EM w hA hm HR h16 hs HL HV H1 HW H2
        · simp only [if_neg hs]
          exact rchk_size c i a u k l A kc m w hA hm HR h16 hs HL
    · rw [if_neg (fun h => h16 h.2)]
      exact rchk_auth c i a u k l A kc w hA hm HR h16

end Sig
end Go.Proofs.YtaeeonohakkgbaaDoor
