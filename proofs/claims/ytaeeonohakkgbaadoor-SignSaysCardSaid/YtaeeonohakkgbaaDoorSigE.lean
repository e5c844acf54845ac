/-
  The check of single answers that the statements of layer 11 end with (tipstafflaw11.awake) comes out true, in every memory that holds the tables, and changes nothing that was there.
-/
import Derived.Test.YtaeeonohakkgbaaDoorSigD
import Derived.Test.YtaeeonohakkgbaaDoorKeyC
namespace Go.Proofs.YtaeeonohakkgbaaDoor
open Go.RowKit
namespace Sig
open Oct Att Pac Key Bx Dig

abbrev AU : ByteArray := ⟨#[48, 49, 50, 51, 52, 53, 54, 55, 56, 57, 97, 98, 99, 100, 101, 102]⟩
abbrev UU : ByteArray := ⟨#[102, 101, 100, 99, 98, 97, 57, 56, 55, 54, 53, 52, 51, 50, 49, 48]⟩
abbrev KK : ByteArray := ⟨#[115, 101, 99, 114, 101, 116]⟩
def MM : ByteArray := ⟨#[40, 83, 230, 251, 216, 243, 135, 55, 156, 127, 189, 171, 170, 139, 152, 17]⟩
def VV : ByteArray := ⟨#[7, 64, 101, 17, 61, 164, 51, 255, 95, 73, 4, 28, 98, 210, 164, 75]⟩
def Lb : List At := [(1, ⟨#[98, 111, 98]⟩)]
def Lp (m : ByteArray) : List At := [(1, ⟨#[98, 111, 98]⟩), (80, m)]
def Lq (m : ByteArray) : List At := [(1, ⟨#[101, 118, 101]⟩), (80, m)]

theorem k_block : blockS KK = ⟨#[115, 101, 99, 114, 101, 116, 0, 0, 0, 0, 0, 0, 0, 0, 0, 0, 0, 0, 0, 0, 0, 0, 0, 0, 0, 0, 0, 0, 0, 0, 0, 0, 0, 0, 0, 0, 0, 0, 0, 0, 0, 0, 0, 0, 0, 0, 0, 0, 0, 0, 0, 0, 0, 0, 0, 0, 0, 0, 0, 0, 0, 0, 0, 0]⟩ := by decide +kernel
theorem k_inner : maskS 54 ⟨#[115, 101, 99, 114, 101, 116, 0, 0, 0, 0, 0, 0, 0, 0, 0, 0, 0, 0, 0, 0, 0, 0, 0, 0, 0, 0, 0, 0, 0, 0, 0, 0, 0, 0, 0, 0, 0, 0, 0, 0, 0, 0, 0, 0, 0, 0, 0, 0, 0, 0, 0, 0, 0, 0, 0, 0, 0, 0, 0, 0, 0, 0, 0, 0]⟩ = ⟨#[69, 83, 85, 68, 83, 66, 54, 54, 54, 54, 54, 54, 54, 54, 54, 54, 54, 54, 54, 54, 54, 54, 54, 54, 54, 54, 54, 54, 54, 54, 54, 54, 54, 54, 54, 54, 54, 54, 54, 54, 54, 54, 54, 54, 54, 54, 54, 54, 54, 54, 54, 54, 54, 54, 54, 54, 54, 54, 54, 54, 54, 54, 54, 54]⟩ := by decide +kernel
theorem k_outer : maskS 92 ⟨#[115, 101, 99, 114, 101, 116, 0, 0, 0, 0, 0, 0, 0, 0, 0, 0, 0, 0, 0, 0, 0, 0, 0, 0, 0, 0, 0, 0, 0, 0, 0, 0, 0, 0, 0, 0, 0, 0, 0, 0, 0, 0, 0, 0, 0, 0, 0, 0, 0, 0, 0, 0, 0, 0, 0, 0, 0, 0, 0, 0, 0, 0, 0, 0]⟩ = ⟨#[47, 57, 63, 46, 57, 40, 92, 92, 92, 92, 92, 92, 92, 92, 92, 92, 92, 92, 92, 92, 92, 92, 92, 92, 92, 92, 92, 92, 92, 92, 92, 92, 92, 92, 92, 92, 92, 92, 92, 92, 92, 92, 92, 92, 92, 92, 92, 92, 92, 92, 92, 92, 92, 92, 92, 92, 92, 92, 92, 92, 92, 92, 92, 92]⟩ := by decide +kernel
theorem k_wire : txtP 2 7 UU (putA Lb 80 Z) = ⟨#[2, 7, 0, 43, 102, 101, 100, 99, 98, 97, 57, 56, 55, 54, 53, 52, 51, 50, 49, 48, 1, 5, 98, 111, 98, 80, 18, 0, 0, 0, 0, 0, 0, 0, 0, 0, 0, 0, 0, 0, 0, 0, 0]⟩ := by decide +kernel
theorem k_one : (⟨#[69, 83, 85, 68, 83, 66, 54, 54, 54, 54, 54, 54, 54, 54, 54, 54, 54, 54, 54, 54, 54, 54, 54, 54, 54, 54, 54, 54, 54, 54, 54, 54, 54, 54, 54, 54, 54, 54, 54, 54, 54, 54, 54, 54, 54, 54, 54, 54, 54, 54, 54, 54, 54, 54, 54, 54, 54, 54, 54, 54, 54, 54, 54, 54]⟩ : ByteArray) ++ ⟨#[2, 7, 0, 43, 102, 101, 100, 99, 98, 97, 57, 56, 55, 54, 53, 52, 51, 50, 49, 48, 1, 5, 98, 111, 98, 80, 18, 0, 0, 0, 0, 0, 0, 0, 0, 0, 0, 0, 0, 0, 0, 0, 0]⟩ = ⟨([69, 83, 85, 68, 83, 66, 54, 54, 54, 54, 54, 54, 54, 54, 54, 54, 54, 54, 54, 54, 54, 54, 54, 54, 54, 54, 54, 54, 54, 54, 54, 54, 54, 54, 54, 54, 54, 54, 54, 54, 54, 54, 54, 54, 54, 54, 54, 54, 54, 54, 54, 54, 54, 54, 54, 54, 54, 54, 54, 54, 54, 54, 54, 54, 2, 7, 0, 43, 102, 101, 100, 99, 98, 97, 57, 56, 55, 54, 53, 52, 51, 50, 49, 48, 1, 5, 98, 111, 98, 80, 18, 0, 0, 0, 0, 0, 0, 0, 0, 0, 0, 0, 0, 0, 0, 0, 0] : List UInt8).toArray⟩ := by decide +kernel
theorem k_two : (⟨#[47, 57, 63, 46, 57, 40, 92, 92, 92, 92, 92, 92, 92, 92, 92, 92, 92, 92, 92, 92, 92, 92, 92, 92, 92, 92, 92, 92, 92, 92, 92, 92, 92, 92, 92, 92, 92, 92, 92, 92, 92, 92, 92, 92, 92, 92, 92, 92, 92, 92, 92, 92, 92, 92, 92, 92, 92, 92, 92, 92, 92, 92, 92, 92]⟩ : ByteArray) ++ ⟨([1, 111, 108, 206, 238, 90, 192, 227, 158, 29, 22, 126, 229, 29, 67, 106] : List UInt8).toArray⟩ = ⟨([47, 57, 63, 46, 57, 40, 92, 92, 92, 92, 92, 92, 92, 92, 92, 92, 92, 92, 92, 92, 92, 92, 92, 92, 92, 92, 92, 92, 92, 92, 92, 92, 92, 92, 92, 92, 92, 92, 92, 92, 92, 92, 92, 92, 92, 92, 92, 92, 92, 92, 92, 92, 92, 92, 92, 92, 92, 92, 92, 92, 92, 92, 92, 92, 1, 111, 108, 206, 238, 90, 192, 227, 158, 29, 22, 126, 229, 29, 67, 106] : List UInt8).toArray⟩ := by decide +kernel
theorem s_one : sumL [69, 83, 85, 68, 83, 66, 54, 54, 54, 54, 54, 54, 54, 54, 54, 54, 54, 54, 54, 54, 54, 54, 54, 54, 54, 54, 54, 54, 54, 54, 54, 54, 54, 54, 54, 54, 54, 54, 54, 54, 54, 54, 54, 54, 54, 54, 54, 54, 54, 54, 54, 54, 54, 54, 54, 54, 54, 54, 54, 54, 54, 54, 54, 54, 2, 7, 0, 43, 102, 101, 100, 99, 98, 97, 57, 56, 55, 54, 53, 52, 51, 50, 49, 48, 1, 5, 98, 111, 98, 80, 18, 0, 0, 0, 0, 0, 0, 0, 0, 0, 0, 0, 0, 0, 0, 0, 0] = [1, 111, 108, 206, 238, 90, 192, 227, 158, 29, 22, 126, 229, 29, 67, 106] := by decide +kernel
theorem s_two : sumL [47, 57, 63, 46, 57, 40, 92, 92, 92, 92, 92, 92, 92, 92, 92, 92, 92, 92, 92, 92, 92, 92, 92, 92, 92, 92, 92, 92, 92, 92, 92, 92, 92, 92, 92, 92, 92, 92, 92, 92, 92, 92, 92, 92, 92, 92, 92, 92, 92, 92, 92, 92, 92, 92, 92, 92, 92, 92, 92, 92, 92, 92, 92, 92, 1, 111, 108, 206, 238, 90, 192, 227, 158, 29, 22, 126, 229, 29, 67, 106] = [40, 83, 230, 251, 216, 243, 135, 55, 156, 127, 189, 171, 170, 139, 152, 17] := by decide +kernel
theorem s_bob : sumL [2, 7, 0, 43, 102, 101, 100, 99, 98, 97, 57, 56, 55, 54, 53, 52, 51, 50, 49, 48, 1, 5, 98, 111, 98, 80, 18, 40, 83, 230, 251, 216, 243, 135, 55, 156, 127, 189, 171, 170, 139, 152, 17, 115, 101, 99, 114, 101, 116] = [7, 64, 101, 17, 61, 164, 51, 255, 95, 73, 4, 28, 98, 210, 164, 75] := by decide +kernel
theorem s_eve : sumL [2, 7, 0, 43, 102, 101, 100, 99, 98, 97, 57, 56, 55, 54, 53, 52, 51, 50, 49, 48, 1, 5, 101, 118, 101, 80, 18, 40, 83, 230, 251, 216, 243, 135, 55, 156, 127, 189, 171, 170, 139, 152, 17, 115, 101, 99, 114, 101, 116] = [37, 221, 165, 46, 184, 127, 85, 162, 166, 227, 231, 136, 180, 91, 119, 186] := by decide +kernel
theorem k_bob : txtP 2 7 UU (Lp MM) ++ KK = ⟨([2, 7, 0, 43, 102, 101, 100, 99, 98, 97, 57, 56, 55, 54, 53, 52, 51, 50, 49, 48, 1, 5, 98, 111, 98, 80, 18, 40, 83, 230, 251, 216, 243, 135, 55, 156, 127, 189, 171, 170, 139, 152, 17, 115, 101, 99, 114, 101, 116] : List UInt8).toArray⟩ := by decide +kernel
theorem k_eve : txtP 2 7 UU (Lq MM) ++ KK = ⟨([2, 7, 0, 43, 102, 101, 100, 99, 98, 97, 57, 56, 55, 54, 53, 52, 51, 50, 49, 48, 1, 5, 101, 118, 101, 80, 18, 40, 83, 230, 251, 216, 243, 135, 55, 156, 127, 189, 171, 170, 139, 152, 17, 115, 101, 99, 114, 101, 116] : List UInt8).toArray⟩ := by decide +kernel
theorem e_blank : mE 2 7 UU Lb = 0 := by decide +kernel
theorem e_blank2 : mE 2 7 AU Lb = 0 := by decide +kernel
theorem e_bob : errP 2 7 UU (Lp MM) = 0 := by decide +kernel
theorem e_eve : errP 2 7 UU (Lq MM) = 0 := by decide +kernel

theorem m_bob : mT 2 7 UU Lb KK = MM := by
  unfold mT keyS
  rw [if_pos e_blank, k_wire, k_block, k_inner, k_outer, k_one, sum_eq s_one, k_two, sum_eq s_two]
  rfl

theorem v_bob : rT 2 7 UU (Lp MM) KK = VV := by
  unfold rT
  rw [if_pos e_bob, k_bob, sum_eq s_bob]
  rfl

theorem v_eve : (VV.data.toList == (rT 2 7 UU (Lq MM) KK).data.toList) = false := by
  unfold rT
  rw [if_pos e_eve, k_eve, sum_eq s_eve]
  decide +kernel

theorem reply_bob : replyP 2 7 Lb UU KK = ⟨0, 2, 7, VV, Lp MM⟩ := by
  unfold replyP
  rw [if_pos e_blank, m_bob, show putA Lb 80 MM = Lp MM from rfl, v_bob]

theorem out_bob : outA Lb 80 = Lb := by decide +kernel

theorem chk_p : chkP 2 7 VV (Lp MM) UU KK = 0 := by
  have h := passes (c := 2) (i := 7) (u := UU) (l := Lb) KK (by rw [out_bob]; exact e_blank)
  rw [out_bob, m_bob, show putA Lb 80 MM = Lp MM from rfl, v_bob] at h
  exact h

theorem chk_some : chkP 2 7 AU Lb UU KK = 6 := by
  unfold chkP
  rw [if_pos ⟨by decide +kernel, by decide +kernel⟩, show allV Lb 80 = [] by decide +kernel]

theorem chk_q : chkP 2 7 VV (Lq MM) UU KK = 5 := by
  unfold chkP
  rw [if_pos ⟨by decide +kernel, by decide +kernel⟩, show allV (Lq MM) 80 = [MM] by decide +kernel]
  simp only [v_eve, Bool.false_and]
  rw [if_pos (by decide +kernel), if_neg (by decide)]

theorem chk_x : chkP 2 7 VV (Lp MM) ⟨#[120]⟩ KK = 1 := by
  unfold chkP
  rw [if_neg (by intro h; exact absurd h.2 (by decide))]

theorem aw_some (w : World) : Calls Tryd.prog 20 #[] w fun e w' => ∃ E, e = .returned (pv 2 7 AU E 1 1) ∧ Ats w' E Lb ∧ Below w.heap.size w w' := by
  go_enter Tryd.func20, Tryd.ntmps20
  go_wp2_with fail
  refine bodyPost_ret (v := pv 2 7 AU (some ⟨w.heap.size + 1, 0, none⟩) 1 1) ?_ rfl ⟨_, rfl, ?_, ?_⟩
  · simp [results, Tryd.results20, go_sem]
  · have e := Go.heap_alloc_new (w.alloc (po 2 7 AU (some ⟨w.heap.size + 1, 0, none⟩) 1 1)) (Obj.cells #[.int .i64 1, .string ⟨#[98, 111, 98]⟩] 39)
    rw [World.size_alloc] at e
    exact row_ats (Y := [.int .i64 1, .string ⟨#[98, 111, 98]⟩]) e rfl
  · exact bel_box (box_below _ _) _

theorem aw_reply (E : Option Addr) (w : World) (h : Ats w E Lb) (hm : Home w) : Calls Tryd.prog 13 #[pv 2 7 AU E 1 1, .string UU, .string KK] w fun e w' => ∃ b o k, e = .returned (.tuple #[pv 2 7 VV (some ⟨b, o, none⟩) 2 k, .int .i64 0]) ∧ w'.cell? ⟨b, o + 2, none⟩ = some (.int .i64 80) ∧ w'.cell? ⟨b, o + 3, none⟩ = some (.string MM) ∧ 2 ≤ k ∧ Ats w' (some ⟨b, o, none⟩) (Lp MM) ∧ Below w.heap.size w w' := by
  have e := reply_any 2 7 AU UU KK (by decide) (by decide) Lb (by decide) E 1 w h hm
  rw [reply_bob] at e
  refine e.mono fun _ _ ⟨G, k, h1, h4, _, _, h2, h3⟩ => ?_
  obtain ⟨b, o, rfl, _, c0, c1⟩ := h2 1 (80, MM) rfl
  exact ⟨b, o, k, h1, by simpa using c0, by simpa using c1, h4, h2, h3⟩

theorem aw_request (E : Option Addr) (w : World) (h : Ats w E Lb) (hm : Home w) : Calls Tryd.prog 11 #[pv 2 7 AU E 1 1, .string KK] w fun e w' => ∃ C k, e = .returned (.tuple #[pv 2 7 AU C 2 k, .int .i64 0]) ∧ Below w.heap.size w w' := by
  have e := request_any 2 7 AU KK (by decide) (by decide) Lb (by decide) E 1 w h hm
  unfold signP at e
  rw [if_pos e_blank2] at e
  exact e.mono fun _ _ ⟨G, k, h1, _, _, _, _, h3⟩ => ⟨G, k, h1, h3⟩

theorem aw_p (b o k : Nat) (w : World) (h : Ats w (some ⟨b, o, none⟩) (Lp MM)) (hm : Home w) : Calls Tryd.prog 16 #[pv 2 7 VV (some ⟨b, o, none⟩) 2 k, .string UU, .string KK] w fun e w' => e = .returned (.int .i64 0) ∧ Below w.heap.size w w' := by
  have e := check_any 2 7 VV UU KK (by decide) (by decide) (by decide) (Lp MM) (by decide) (some ⟨b, o, none⟩) k w h hm
  rwa [chk_p] at e

theorem aw_x (b o k : Nat) (w : World) (h : Ats w (some ⟨b, o, none⟩) (Lp MM)) (hm : Home w) : Calls Tryd.prog 16 #[pv 2 7 VV (some ⟨b, o, none⟩) 2 k, .string ⟨#[120]⟩, .string KK] w fun e w' => e = .returned (.int .i64 1) ∧ Below w.heap.size w w' := by
  have e := check_any 2 7 VV ⟨#[120]⟩ KK (by decide) (by decide) (by decide) (Lp MM) (by decide) (some ⟨b, o, none⟩) k w h hm
  rwa [chk_x] at e

theorem aw_q (g : Nat) (w : World) (h : Ats w (some ⟨g, 0, none⟩) (Lq MM)) (hm : Home w) : Calls Tryd.prog 16 #[pv 2 7 VV (some ⟨g, 0, none⟩) 2 2, .string UU, .string KK] w fun e w' => e = .returned (.int .i64 5) ∧ Below w.heap.size w w' := by
  have e := check_any 2 7 VV UU KK (by decide) (by decide) (by decide) (Lq MM) (by decide) (some ⟨g, 0, none⟩) 2 w h hm
  rwa [chk_q] at e

theorem aw_none (E : Option Addr) (w : World) (h : Ats w E Lb) (hm : Home w) : Calls Tryd.prog 16 #[pv 2 7 AU E 1 1, .string UU, .string KK] w fun e w' => e = .returned (.int .i64 6) ∧ Below w.heap.size w w' := by
  have e := check_any 2 7 AU UU KK (by decide) (by decide) (by decide) Lb (by decide) E 1 w h hm
  rwa [chk_some] at e

/-- What stands while the answers are gone through. -/
def Aw (w0 W : World) (p q r b o k g : Nat) (m v : ByteArray) (C : Option Addr) (kc : Nat) : Prop := Blk W p (pl 2 7 v (some ⟨b, o, none⟩) 2 k) ∧ Blk W q (pl 2 7 v (some ⟨g, 0, none⟩) 2 2) ∧ Blk W r (pl 2 7 AU C 2 kc) ∧ Ats W (some ⟨b, o, none⟩) (Lp m) ∧ Ats W (some ⟨g, 0, none⟩) (Lq m) ∧ Below w0.heap.size w0 W

theorem Aw.keep {w0 W : World} {p q r b o k g : Nat} {m v : ByteArray} {C : Option Addr} {kc : Nat} {W' : World} (h : Hid (Aw w0 W p q r b o k g m v C kc)) (hb : Below W.heap.size W W') : Hid (Aw w0 W' p q r b o k g m v C kc) :=
  Lib.hid ⟨h.out.1.keep hb, h.out.2.1.keep hb, h.out.2.2.1.keep hb, h.out.2.2.2.1.below hb, h.out.2.2.2.2.1.below hb, then_below h.out.2.2.2.2.2 hb⟩
theorem Aw.drew {w0 W : World} {p q r b o k g : Nat} {m v : ByteArray} {C : Option Addr} {kc : Nat} (h : Hid (Aw w0 W p q r b o k g m v C kc)) : Hid (Aw w0 W.drew p q r b o k g m v C kc) := Aw.keep h ((Below.refl _ W).drew)
theorem Aw.p {w0 W : World} {p q r b o k g : Nat} {m v : ByteArray} {C : Option Addr} {kc : Nat} (h : Hid (Aw w0 W p q r b o k g m v C kc)) : Ats W (some ⟨b, o, none⟩) (Lp m) := h.out.2.2.2.1
theorem Aw.q {w0 W : World} {p q r b o k g : Nat} {m v : ByteArray} {C : Option Addr} {kc : Nat} (h : Hid (Aw w0 W p q r b o k g m v C kc)) : Ats W (some ⟨g, 0, none⟩) (Lq m) := h.out.2.2.2.2.1
theorem Aw.home {w0 W : World} {p q r b o k g : Nat} {m v : ByteArray} {C : Option Addr} {kc : Nat} (hm : Home w0) (h : Hid (Aw w0 W p q r b o k g m v C kc)) : Home W := hm.below h.out.2.2.2.2.2
theorem Aw.full {w0 W : World} {p q r b o k g : Nat} {m v : ByteArray} {C : Option Addr} {kc : Nat} (h : Hid (Aw w0 W p q r b o k g m v C kc)) : W.cell? ⟨p, 0, none⟩ = some (.int .i64 2) ∧ W.cell? ⟨p, 1, none⟩ = some (.int .i64 7) ∧ W.cell? ⟨p, 2, none⟩ = some (.string v) ∧ W.cell? ⟨p, 3, none⟩ = some (.slice (some ⟨b, o, none⟩) 2 k) ∧ W.cell? ⟨q, 0, none⟩ = some (.int .i64 2) ∧ W.cell? ⟨q, 1, none⟩ = some (.int .i64 7) ∧ W.cell? ⟨q, 2, none⟩ = some (.string v) ∧ W.cell? ⟨q, 3, none⟩ = some (.slice (some ⟨g, 0, none⟩) 2 2) ∧ W.cell? ⟨r, 2, none⟩ = some (.string AU) ∧ W.cell? ⟨r, 3, none⟩ = some (.slice C 2 kc) ∧ Hid (Aw w0 W p q r b o k g m v C kc) := by
  obtain ⟨a0, a1, a2, a3⟩ := h.out.1.all4
  obtain ⟨b0, b1, b2, b3⟩ := h.out.2.1.all4
  obtain ⟨_, _, c2, c3⟩ := h.out.2.2.1.all4
  exact ⟨a0, a1, a2, a3, b0, b1, b2, b3, c2, c3, h⟩

set_option maxRecDepth 20000 in
set_option maxHeartbeats 8000000 in
theorem awake_any (w : World) (hm : Home w) : Calls Tryd.prog 6 #[] w fun e w' => e = .returned (.bool true) ∧ Below w.heap.size w w' := by
  have HM := Lib.hid hm
  clear hm
  have HRp := Lib.hid aw_reply
  have HP := Lib.hid aw_p
  have HX := Lib.hid aw_x
  have HQ := Lib.hid aw_q
  generalize VV = v at *
  generalize MM = m at *
  have hfd : ∀ (F : Option Addr) (w : World), (Instr.field 24 (pv 2 7 AU F 1 1) 2).run Tryd.prog w = .ok (.string AU) w := fun _ _ => by kernel_rfl
  go_enter Tryd.func6, Tryd.ntmps6
  go_wp2_with fail
  refine (aw_some _).mono ?_; rintro e w1 ⟨E, rfl, h1, hb1⟩
  have A1 := Lib.hid h1
  have B1 := Lib.hid hb1
  clear h1 hb1
  go_wp2_with fail
  refine (HRp.out _ _ A1.out (HM.out.below B1.out)).mono ?_; rintro e w2 ⟨b, o, k, rfl, t0, t1, hk, h2, hb2⟩
  have B2 := Lib.hid (bel_box (then_below B1.out hb2) (po 2 7 v (some ⟨b, o, none⟩) 2 k))
  have P2 := Lib.hid (Fre.new w2 (pl 2 7 v (some ⟨b, o, none⟩) 2 k) 24)
  have A2 := Lib.hid (h2.below (box_below w2 (po 2 7 v (some ⟨b, o, none⟩) 2 k)))
  have T0 := keep_cell (box_below _ (po 2 7 v (some ⟨b, o, none⟩) 2 k)) (keep_cell (box_below w2 (po 2 7 v (some ⟨b, o, none⟩) 2 k)) t0)
  have T1 := keep_cell (box_below _ (po 2 7 v (some ⟨b, o, none⟩) 2 k)) (keep_cell (box_below w2 (po 2 7 v (some ⟨b, o, none⟩) 2 k)) t1)
  clear hb2 A1 B1 h2 t0 t1
  go_wp2_with fail
  clear T0 T1
  have G5 : Hid (Ats (((w2.alloc (po 2 7 v (some ⟨b, o, none⟩) 2 k)).alloc (po 2 7 v (some ⟨w2.heap.size + 1 + 1, 0, none⟩) 2 2)).alloc (Obj.cells #[.int .i64 1, .string ⟨#[101, 118, 101]⟩, .int .i64 80, .string m] 39)) (some ⟨w2.heap.size + 1 + 1, 0, none⟩) (Lq m)) := Lib.hid (by
    have e := Go.heap_alloc_new ((w2.alloc (po 2 7 v (some ⟨b, o, none⟩) 2 k)).alloc (po 2 7 v (some ⟨w2.heap.size + 1 + 1, 0, none⟩) 2 2)) (Obj.cells #[.int .i64 1, .string ⟨#[101, 118, 101]⟩, .int .i64 80, .string m] 39)
    rw [World.size_alloc, World.size_alloc] at e
    exact row_ats (Y := [.int .i64 1, .string ⟨#[101, 118, 101]⟩, .int .i64 80, .string m]) e rfl)
  have Q5 : Hid (Blk (((w2.alloc (po 2 7 v (some ⟨b, o, none⟩) 2 k)).alloc (po 2 7 v (some ⟨w2.heap.size + 1 + 1, 0, none⟩) 2 2)).alloc (Obj.cells #[.int .i64 1, .string ⟨#[101, 118, 101]⟩, .int .i64 80, .string m] 39)) (w2.heap.size + 1) (pl 2 7 v (some ⟨w2.heap.size + 1 + 1, 0, none⟩) 2 2)) :=
    Lib.hid ((Blk.new_at (W := w2.alloc (po 2 7 v (some ⟨b, o, none⟩) 2 k)) (pl 2 7 v (some ⟨w2.heap.size + 1 + 1, 0, none⟩) 2 2) 24 (by simp)).more _)
  have P5 : Hid (Blk (((w2.alloc (po 2 7 v (some ⟨b, o, none⟩) 2 k)).alloc (po 2 7 v (some ⟨w2.heap.size + 1 + 1, 0, none⟩) 2 2)).alloc (Obj.cells #[.int .i64 1, .string ⟨#[101, 118, 101]⟩, .int .i64 80, .string m] 39)) w2.heap.size (pl 2 7 v (some ⟨b, o, none⟩) 2 k)) := Lib.hid ((P2.out.1.more _).more _)
  have A5 : Hid (Ats (((w2.alloc (po 2 7 v (some ⟨b, o, none⟩) 2 k)).alloc (po 2 7 v (some ⟨w2.heap.size + 1 + 1, 0, none⟩) 2 2)).alloc (Obj.cells #[.int .i64 1, .string ⟨#[101, 118, 101]⟩, .int .i64 80, .string m] 39)) (some ⟨b, o, none⟩) (Lp m)) := Lib.hid ((A2.out.below (box_below _ _)).below (box_below _ _))
  have B5 : Hid (Below w.heap.size w (((w2.alloc (po 2 7 v (some ⟨b, o, none⟩) 2 k)).alloc (po 2 7 v (some ⟨w2.heap.size + 1 + 1, 0, none⟩) 2 2)).alloc (Obj.cells #[.int .i64 1, .string ⟨#[101, 118, 101]⟩, .int .i64 80, .string m] 39))) := Lib.hid (bel_box (bel_box B2.out _) _)
  clear P2 A2 B2
  generalize ((w2.alloc (po 2 7 v (some ⟨b, o, none⟩) 2 k)).alloc (po 2 7 v (some ⟨w2.heap.size + 1 + 1, 0, none⟩) 2 2)).alloc (Obj.cells #[.int .i64 1, .string ⟨#[101, 118, 101]⟩, .int .i64 80, .string m] 39) = w5 at *
  generalize w2.heap.size + 1 + 1 = g at *
  generalize w2.heap.size + 1 = q at *
  generalize w2.heap.size = p at *
  refine (aw_some _).mono ?_; rintro e w6 ⟨E6, rfl, h6, hb6⟩
  have A6 := Lib.hid h6
  have B6 := Lib.hid (then_below B5.out hb6)
  have HB6 := Lib.hid hb6
  clear h6 hb6
  go_wp2_with fail
  refine (aw_request _ _ A6.out (HM.out.below B6.out)).mono ?_; rintro e w7 ⟨C, kc, rfl, hb7⟩
  have HB7 := Lib.hid (bel_box (then_below HB6.out hb7) (po 2 7 AU C 2 kc))
  have AW := Lib.hid (show Aw w (w7.alloc (po 2 7 AU C 2 kc)) p q w7.heap.size b o k g m v C kc from
    ⟨P5.out.keep HB7.out, Q5.out.keep HB7.out, Blk.new w7 (pl 2 7 AU C 2 kc) 24, A5.out.below HB7.out, G5.out.below HB7.out, then_below B5.out HB7.out⟩)
  clear hb7 P5 Q5 A5 G5 B5 B6 HB6 HB7 A6
  go_wp2_with fail
  generalize w7.heap.size = r at *
  generalize w7.alloc (po 2 7 AU C 2 kc) = W at *
  have zz := Aw.full (Aw.drew AW)
  go_region_held3 (fun W => W.cell? ⟨p, 0, none⟩ = some (.int .i64 2) ∧ W.cell? ⟨p, 1, none⟩ = some (.int .i64 7) ∧ W.cell? ⟨p, 2, none⟩ = some (.string v) ∧ W.cell? ⟨p, 3, none⟩ = some (.slice (some ⟨b, o, none⟩) 2 k) ∧ W.cell? ⟨q, 0, none⟩ = some (.int .i64 2) ∧ W.cell? ⟨q, 1, none⟩ = some (.int .i64 7) ∧ W.cell? ⟨q, 2, none⟩ = some (.string v) ∧ W.cell? ⟨q, 3, none⟩ = some (.slice (some ⟨g, 0, none⟩) 2 2) ∧ W.cell? ⟨r, 2, none⟩ = some (.string AU) ∧ W.cell? ⟨r, 3, none⟩ = some (.slice C 2 kc) ∧ Hid (Aw w W p q r b o k g m v C kc))
    (first | exact zz | (go_split_ands; exact Aw.full (Aw.keep (by assumption) (by assumption))) | go_keep)
    (first
      | (go_at_call 20; with_reducible refine (aw_some _).mono ?_; rintro e w9 ⟨E9, rfl, hE9, hb9⟩)
      | (go_at_call 16; go_split_ands; with_reducible refine (HP.out b o k _ (Aw.p (w0 := w) (p := p) (q := q) (r := r) (k := k) (g := g) (v := v) (C := C) (kc := kc) (by assumption)) (Aw.home (w0 := w) (p := p) (q := q) (r := r) (b := b) (o := o) (k := k) (g := g) (m := m) (v := v) (C := C) (kc := kc) HM.out (by assumption))).mono ?_; rintro e w10 ⟨rfl, hb10⟩)
      | (go_at_call 16; go_split_ands; with_reducible refine (HX.out b o k _ (Aw.p (w0 := w) (p := p) (q := q) (r := r) (k := k) (g := g) (v := v) (C := C) (kc := kc) (by assumption)) (Aw.home (w0 := w) (p := p) (q := q) (r := r) (b := b) (o := o) (k := k) (g := g) (m := m) (v := v) (C := C) (kc := kc) HM.out (by assumption))).mono ?_; rintro e w11 ⟨rfl, hb11⟩)
      | (go_at_call 16; go_split_ands; with_reducible refine (HQ.out g _ (Aw.q (w0 := w) (p := p) (q := q) (r := r) (b := b) (o := o) (k := k) (v := v) (C := C) (kc := kc) (by assumption)) (Aw.home (w0 := w) (p := p) (q := q) (r := r) (b := b) (o := o) (k := k) (g := g) (m := m) (v := v) (C := C) (kc := kc) HM.out (by assumption))).mono ?_; rintro e w12 ⟨rfl, hb12⟩)
      | (go_at_call 16; go_split_ands; with_reducible refine (aw_none _ _ (by assumption) (Aw.home (w0 := w) (p := p) (q := q) (r := r) (b := b) (o := o) (k := k) (g := g) (m := m) (v := v) (C := C) (kc := kc) HM.out (by assumption))).mono ?_; rintro e w13 ⟨rfl, hb13⟩))
  have AE : Hid (Aw w w9 p q r b o k g m v C kc) := by go_split_ands; assumption
  have BE := Lib.hid AE.out.2.2.2.2.2
  go_wp2
  go_ret
  exact ⟨rfl, BE.out⟩

end Sig
end Go.Proofs.YtaeeonohakkgbaaDoor
