/-
  What the document's Message and Response answer of any packet, authenticator and secret; and that they change nothing that was there.
-/
import Derived.Test.YtaeeonohakkgbaaDoorSigA
import Derived.Test.YtaeeonohakkgbaaDoorPacG
namespace Go.Proofs.YtaeeonohakkgbaaDoor
open Go.RowKit
namespace Sig
open Oct Att Pac Key Bx Dig

/-- What stands while the document reckons: all that was there, and the packet's box. -/
def Sp (w : World) (c i : Int) (u : ByteArray) (A : Option Addr) (n kc : Nat) (W : World) : Prop := Below w.heap.size w W ∧ Blk W w.heap.size (pl c i u A n kc)

theorem Sp.keep {w : World} {c i : Int} {u : ByteArray} {A : Option Addr} {n kc : Nat} {W W' : World} (h : Hid (Sp w c i u A n kc W)) (hb : Below W.heap.size W W') : Hid (Sp w c i u A n kc W') :=
  Lib.hid ⟨then_below h.out.1 hb, h.out.2.keep hb⟩

theorem Sp.drew {w : World} {c i : Int} {u : ByteArray} {A : Option Addr} {n kc : Nat} {W : World} (h : Hid (Sp w c i u A n kc W)) : Hid (Sp w c i u A n kc W.drew) := Sp.keep h ((Below.refl _ W).drew)

theorem Sp.full {w : World} {c i : Int} {u : ByteArray} {A : Option Addr} {n kc : Nat} {W : World} (h : Hid (Sp w c i u A n kc W)) : W.cell? ⟨w.heap.size, 0, none⟩ = some (.int .i64 c) ∧ W.cell? ⟨w.heap.size, 1, none⟩ = some (.int .i64 i) ∧ W.cell? ⟨w.heap.size, 2, none⟩ = some (.string u) ∧ W.cell? ⟨w.heap.size, 3, none⟩ = some (.slice A n kc) ∧ Hid (Sp w c i u A n kc W) := by
  obtain ⟨a0, a1, a2, a3⟩ := h.out.2.all4
  exact ⟨a0, a1, a2, a3, h⟩

/-- The packet's box with the other authenticator. -/
theorem Sp.new (w : World) (c i : Int) (u : ByteArray) (A : Option Addr) (n kc : Nat) : Hid (Sp w c i u A n kc (w.alloc (po c i u A n kc))) :=
  Lib.hid ⟨box_below w _, Blk.new w (pl c i u A n kc) 24⟩

set_option maxRecDepth 20000 in
set_option maxHeartbeats 1000000 in
theorem rresp_err (c i : Int) (a u k : ByteArray) (l : List At) (A : Option Addr) (kc : Nat) (w : World) (hA : Ats w A l)
    (HB : Hid (∀ w, Ats w A l → Calls Tryd.prog 26 #[pv c i u A l.length kc] w fun e w' => e = .returned (.tuple #[.string ⟨#[]⟩, .int .i64 1]) ∧ Below w.heap.size w w')) :
    Calls Tryd.prog 10 #[pv c i a A l.length kc, .string u, .string k] w fun e w' => e = .returned (.tuple #[.string ⟨#[]⟩, .int .i64 1]) ∧ Below w.heap.size w w' := by
  have B0 := Lib.hid (re_below w c i u A l.length kc)
  have HA := Lib.hid (hA.below B0.out)
  clear hA
  go_enter Tryd.func10, Tryd.ntmps10
  go_wp2_with fail
  refine (HB.out _ HA.out).mono ?_; rintro e w1 ⟨rfl, hb1⟩
  have B1 := Lib.hid (then_below B0.out hb1)
  clear hb1
  go_wp2_with fail
  go_ret2
  exact ⟨rfl, B1.out⟩

set_option maxRecDepth 20000 in
set_option maxHeartbeats 1000000 in
theorem rresp_ok (c i : Int) (a u k : ByteArray) (l : List At) (A : Option Addr) (kc : Nat) (S R : ByteArray) (hz : S.size ≤ 5000) (hk : k.size ≤ 40000) (w : World) (hA : Ats w A l)
    (HB : Hid (∀ w, Ats w A l → Calls Tryd.prog 26 #[pv c i u A l.length kc] w fun e w' => e = .returned (.tuple #[.string S, .int .i64 0]) ∧ Below w.heap.size w w'))
    (HF : Hid (∀ w, Calls Tryd.prog 32 #[.string (S ++ k)] w fun e w' => e = .returned (.string R) ∧ Below w.heap.size w w')) :
    Calls Tryd.prog 10 #[pv c i a A l.length kc, .string u, .string k] w fun e w' => e = .returned (.tuple #[.string R, .int .i64 0]) ∧ Below w.heap.size w w' := by
  have B0 := Lib.hid (re_below w c i u A l.length kc)
  have HA := Lib.hid (hA.below B0.out)
  have z1 : ¬ (S.size + k.size > 9223372036854775807) := by omega
  clear hA
  go_enter Tryd.func10, Tryd.ntmps10
  go_wp2_with fail
  refine (HB.out _ HA.out).mono ?_; rintro e w1 ⟨rfl, hb1⟩
  have B1 := Lib.hid (then_below B0.out hb1)
  clear hb1
  go_wp2_with fail
  refine (HF.out _).mono ?_; rintro e w2 ⟨rfl, hb2⟩
  have B2 := Lib.hid (then_below B1.out hb2)
  clear hb2
  go_wp2_with fail
  go_ret2
  exact ⟨rfl, B2.out⟩

/-- The document's Response(p, auth, secret). -/
theorem rresponse_any (c i : Int) (a u k : ByteArray) (hu : u.size ≤ maxLen) (hk : k.size ≤ 40000) (l : List At) (hl : l.length ≤ maxLen) (A : Option Addr) (kc : Nat) (w : World) (hA : Ats w A l) :
    Calls Tryd.prog 10 #[pv c i a A l.length kc, .string u, .string k] w fun e w' => e = .returned (.tuple #[.string (rT c i u l k), .int .i64 (errP c i u l)]) ∧ Below w.heap.size w w' := by
  have HB := Lib.hid (fun w hA => Pac.rbytes_any c i u hu l hl A kc w hA)
  unfold rT
  cases hr : rightP c i u l with
  | true =>
    obtain ⟨e1, e2⟩ := is_right hr
    have hs : (wireP c i u l).size ≤ 5000 := by
      have := (Pac.right_iff.1 hr)
      rw [wire_size]
      omega
    rw [e1, e2] at HB
    rw [e1, e2, if_pos rfl]
    exact rresp_ok c i a u k l A kc _ _ hs hk w hA HB (Lib.hid fun w => rsum_any _ w (by rw [ByteArray.size_append]; omega))
  | false =>
    obtain ⟨e1, e2⟩ := not_right hr
    rw [e1, e2] at HB
    rw [e2, if_neg (by decide)]
    exact rresp_err c i a u k l A kc w hA HB

set_option maxRecDepth 20000 in
set_option maxHeartbeats 4000000 in
theorem rmsg_err (c i : Int) (a u k : ByteArray) (L : List At) (n : Nat) (A : Option Addr) (kc : Nat) (z : ByteArray) (w : World)
    (HP : Hid (∀ W, Hid (Sp w c i u A n kc W) → Calls Tryd.prog 27 #[pv c i u A n kc, .int .i64 80, .string z] W fun e w' => ∃ B kb, e = .returned (pv c i u B L.length kb) ∧ Ats w' B L ∧ Below W.heap.size W w'))
    (HZ : Hid (∀ w, Calls Tryd.prog 28 #[.string ⟨#[]⟩, .int .i64 16] w fun e w' => e = .returned (.string z) ∧ Below w.heap.size w w'))
    (HB : Hid (∀ B kb w, Ats w B L → Calls Tryd.prog 26 #[pv c i u B L.length kb] w fun e w' => e = .returned (.tuple #[.string ⟨#[]⟩, .int .i64 1]) ∧ Below w.heap.size w w')) :
    Calls Tryd.prog 8 #[pv c i a A n kc, .string u, .string k] w fun e w' => e = .returned (.tuple #[.string ⟨#[]⟩, .int .i64 1]) ∧ Below w.heap.size w w' := by
  have ST := Sp.new w c i u A n kc
  have zz := Sp.full (Sp.drew ST)
  go_enter Tryd.func8, Tryd.ntmps8
  go_wp2_with fail
  generalize w.alloc (po c i u A n kc) = W at *
  go_region_held3 (fun W => W.cell? ⟨w.heap.size, 0, none⟩ = some (.int .i64 c) ∧ W.cell? ⟨w.heap.size, 1, none⟩ = some (.int .i64 i) ∧ W.cell? ⟨w.heap.size, 2, none⟩ = some (.string u) ∧ W.cell? ⟨w.heap.size, 3, none⟩ = some (.slice A n kc) ∧ Hid (Sp w c i u A n kc W))
    (first | exact zz | (go_split_ands; exact Sp.full (Sp.keep (by assumption) (by assumption))) | go_keep)
    (first | (go_at_call 28; with_reducible refine (HZ.out _).mono ?_; rintro e w3 ⟨rfl, hb3⟩) | (go_at_call 27; go_split_ands; with_reducible refine (HP.out _ (by assumption)).mono ?_; rintro e w4 ⟨B, kb, rfl, hB, hb4⟩) | (go_at_call 26; with_reducible refine (HB.out _ _ _ (by assumption)).mono ?_; rintro e w5 ⟨rfl, hb5⟩))
  have B5 := Lib.hid (then_below (then_below (bel_drew ST.out.1 hb3) hb4) hb5)
  clear hb3 hb4 hb5 hB
  go_wp2_with fail
  go_ret2
  exact ⟨rfl, B5.out⟩

set_option maxRecDepth 20000 in
set_option maxHeartbeats 4000000 in
theorem rmsg_ok (c i : Int) (a u k : ByteArray) (L : List At) (n : Nat) (A : Option Addr) (kc : Nat) (z : ByteArray) (S R : ByteArray) (w : World)
    (HP : Hid (∀ W, Hid (Sp w c i u A n kc W) → Calls Tryd.prog 27 #[pv c i u A n kc, .int .i64 80, .string z] W fun e w' => ∃ B kb, e = .returned (pv c i u B L.length kb) ∧ Ats w' B L ∧ Below W.heap.size W w'))
    (HZ : Hid (∀ w, Calls Tryd.prog 28 #[.string ⟨#[]⟩, .int .i64 16] w fun e w' => e = .returned (.string z) ∧ Below w.heap.size w w'))
    (HB : Hid (∀ B kb w, Ats w B L → Calls Tryd.prog 26 #[pv c i u B L.length kb] w fun e w' => e = .returned (.tuple #[.string S, .int .i64 0]) ∧ Below w.heap.size w w'))
    (HF : Hid (∀ w, Calls Tryd.prog 29 #[.string k, .string S] w fun e w' => e = .returned (.string R) ∧ Below w.heap.size w w')) :
    Calls Tryd.prog 8 #[pv c i a A n kc, .string u, .string k] w fun e w' => e = .returned (.tuple #[.string R, .int .i64 0]) ∧ Below w.heap.size w w' := by
  have ST := Sp.new w c i u A n kc
  have zz := Sp.full (Sp.drew ST)
  go_enter Tryd.func8, Tryd.ntmps8
  go_wp2_with fail
  generalize w.alloc (po c i u A n kc) = W at *
  go_region_held3 (fun W => W.cell? ⟨w.heap.size, 0, none⟩ = some (.int .i64 c) ∧ W.cell? ⟨w.heap.size, 1, none⟩ = some (.int .i64 i) ∧ W.cell? ⟨w.heap.size, 2, none⟩ = some (.string u) ∧ W.cell? ⟨w.heap.size, 3, none⟩ = some (.slice A n kc) ∧ Hid (Sp w c i u A n kc W))
    (first | exact zz | (go_split_ands; exact Sp.full (Sp.keep (by assumption) (by assumption))) | go_keep)
    (first | (go_at_call 28; with_reducible refine (HZ.out _).mono ?_; rintro e w3 ⟨rfl, hb3⟩) | (go_at_call 27; go_split_ands; with_reducible refine (HP.out _ (by assumption)).mono ?_; rintro e w4 ⟨B, kb, rfl, hB, hb4⟩) | (go_at_call 26; with_reducible refine (HB.out _ _ _ (by assumption)).mono ?_; rintro e w5 ⟨rfl, hb5⟩))
  have B5 := Lib.hid (then_below (then_below (bel_drew ST.out.1 hb3) hb4) hb5)
  clear hb3 hb4 hb5 hB
  go_wp2_with fail
  refine (HF.out _).mono ?_; rintro e w6 ⟨rfl, hb6⟩
  have B6 := Lib.hid (then_below B5.out hb6)
  clear hb6
  go_wp2_with fail
  go_ret2
  exact ⟨rfl, B6.out⟩

/-- The document's Message(p, auth, secret). -/
theorem rmessage_any (c i : Int) (a u k : ByteArray) (hu : u.size ≤ maxLen) (hk : k.size ≤ 1048576) (l : List At) (hl : l.length ≤ 1000) (A : Option Addr) (kc : Nat) (w : World) (hA : Ats w A l) :
    Calls Tryd.prog 8 #[pv c i a A l.length kc, .string u, .string k] w fun e w' => e = .returned (.tuple #[.string (mT c i u l k), .int .i64 (mE c i u l)]) ∧ Below w.heap.size w w' := by
  have hLn := put_length l 80 Z
  have HP : Hid (∀ W, Hid (Sp w c i u A l.length kc W) → Calls Tryd.prog 27 #[pv c i u A l.length kc, .int .i64 80, .string Z] W fun e w' => ∃ B kb, e = .returned (pv c i u B (putA l 80 Z).length kb) ∧ Ats w' B (putA l 80 Z) ∧ Below W.heap.size W w') :=
    Lib.hid fun W h => (rput_any c i u l hl A kc 80 Z W (hA.below h.out.1)).mono fun _ _ h => by
      obtain ⟨B, kb, h1, h2, h3⟩ := h
      exact ⟨B, kb, h1, h2, h3⟩
  have HZ : Hid (∀ w, Calls Tryd.prog 28 #[.string ⟨#[]⟩, .int .i64 16] w fun e w' => e = .returned (.string Z) ∧ Below w.heap.size w w') := Lib.hid (fun w => rpad_any ⟨#[]⟩ 16 w (by decide))
  have HB := Lib.hid (fun B kb w hB => Pac.rbytes_any c i u hu (putA l 80 Z) (by unfold maxLen; omega) B kb w hB)
  unfold mT mE
  cases hr : rightP c i u (putA l 80 Z) with
  | true =>
    obtain ⟨e1, e2⟩ := is_right hr
    have hs : (wireP c i u (putA l 80 Z)).size ≤ 5000 := by
      have := (Pac.right_iff.1 hr)
      rw [wire_size]
      omega
    rw [e1, e2] at HB
    rw [e1, e2, if_pos rfl]
    exact rmsg_ok c i a u k _ _ A kc Z _ _ w HP HZ HB (Lib.hid fun w => rksum_any k _ w hk (by omega))
  | false =>
    obtain ⟨e1, e2⟩ := not_right hr
    rw [e1, e2] at HB
    rw [e2, if_neg (by decide)]
    exact rmsg_err c i a u k _ _ A kc Z w HP HZ HB

end Sig
end Go.Proofs.YtaeeonohakkgbaaDoor
