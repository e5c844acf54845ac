/-
  What the closures of sign.Message and sign.Response answer, and what sign.reckoned, sign.Message and sign.Response answer of any packet, authenticator and secret; and that they change nothing that was there.
-/
import Derived.Test.YtaeeonohakkgbaaDoorSigNum
import Derived.Deep.RegionHeld3
namespace Go.Proofs.YtaeeonohakkgbaaDoor
open Go.RowKit
namespace Sig
open Oct Att Pac Key Bx Dig

set_option maxRecDepth 20000 in
set_option maxHeartbeats 1000000 in
/-- The closure that reckons a digest with a key. -/
theorem msg_fn (k s : ByteArray) (hk : k.size ≤ 1048576) (hs : s.size ≤ 1000000) (b o : Nat) (w : World) (hm : Home w) (h : w.cell? ⟨b, o, none⟩ = some (.string k)) :
    Calls Tryd.prog 24 #[.string s, .pointer (some ⟨b, o, none⟩)] w fun e w' => e = .returned (.string (keyS k s)) ∧ Below w.heap.size w w' := by
  have HK := Lib.hid (ksum_any k s w hk hs hm)
  generalize keyS k s = R at *
  go_enter Tryd.func24, Tryd.ntmps24
  go_wp2_with fail
  refine HK.out.mono ?_; rintro e w1 ⟨rfl, hb1⟩
  go_wp2_with fail
  go_ret
  exact ⟨rfl, hb1⟩

set_option maxRecDepth 20000 in
set_option maxHeartbeats 1000000 in
/-- The closure that reckons a digest of a text and the secret behind it. -/
theorem resp_fn (k s : ByteArray) (hk : k.size ≤ 40000) (hs : s.size ≤ 1000000) (b o : Nat) (w : World) (hm : Home w) (h : w.cell? ⟨b, o, none⟩ = some (.string k)) :
    Calls Tryd.prog 30 #[.string s, .pointer (some ⟨b, o, none⟩)] w fun e w' => e = .returned (.string (sumS (s ++ k))) ∧ Below w.heap.size w w' := by
  have HK := Lib.hid (dsum_any (s ++ k) w (by rw [ByteArray.size_append]; omega) hm)
  have z1 : ¬ (s.size + k.size > 9223372036854775807) := by omega
  generalize sumS (s ++ k) = R at *
  go_enter Tryd.func30, Tryd.ntmps30
  go_wp2_with fail
  refine HK.out.mono ?_; rintro e w1 ⟨rfl, hb1⟩
  go_wp2_with fail
  go_ret
  exact ⟨rfl, hb1⟩

/-- What reckoned lays ahead: the packet with the other authenticator. -/
theorem re_below (w : World) (c i : Int) (u : ByteArray) (A : Option Addr) (n kc : Nat) : Below w.heap.size w (w.alloc (po c i u A n kc)) := box_below w _

set_option maxRecDepth 20000 in
set_option maxHeartbeats 1000000 in
theorem re_err (c i : Int) (a u : ByteArray) (l : List At) (A : Option Addr) (kc : Nat) (f : Value) (w : World) (hA : Ats w A l)
    (HB : Hid (∀ w, Ats w A l → Calls Tryd.prog 45 #[pv c i u A l.length kc] w fun e w' => e = .returned (.tuple #[.string ⟨#[]⟩, .int .i64 1]) ∧ Below w.heap.size w w')) :
    Calls Tryd.prog 23 #[pv c i a A l.length kc, .string u, f] w fun e w' => e = .returned (.tuple #[.string ⟨#[]⟩, .int .i64 1]) ∧ Below w.heap.size w w' := by
  have B0 := Lib.hid (re_below w c i u A l.length kc)
  have HA := Lib.hid (hA.below B0.out)
  clear hA
  go_enter Tryd.func23, Tryd.ntmps23
  go_wp2_with fail
  refine (HB.out _ HA.out).mono ?_; rintro e w1 ⟨rfl, hb1⟩
  have B1 := Lib.hid (then_below B0.out hb1)
  clear hb1
  go_wp2_with fail
  go_ret2
  exact ⟨rfl, B1.out⟩

set_option maxRecDepth 20000 in
set_option maxHeartbeats 1000000 in
theorem re_msg (c i : Int) (a u k : ByteArray) (l : List At) (A : Option Addr) (kc : Nat) (b o : Nat) (S R : ByteArray) (w : World) (hA : Ats w A l) (hm : Home w) (h : w.cell? ⟨b, o, none⟩ = some (.string k))
    (HB : Hid (∀ w, Ats w A l → Calls Tryd.prog 45 #[pv c i u A l.length kc] w fun e w' => e = .returned (.tuple #[.string S, .int .i64 0]) ∧ Below w.heap.size w w'))
    (HF : Hid (∀ w, Home w → w.cell? ⟨b, o, none⟩ = some (.string k) → Calls Tryd.prog 24 #[.string S, .pointer (some ⟨b, o, none⟩)] w fun e w' => e = .returned (.string R) ∧ Below w.heap.size w w')) :
    Calls Tryd.prog 23 #[pv c i a A l.length kc, .string u, .func (.func 24) #[] #[.pointer (some ⟨b, o, none⟩)]] w fun e w' => e = .returned (.tuple #[.string R, .int .i64 0]) ∧ Below w.heap.size w w' := by
  have B0 := Lib.hid (re_below w c i u A l.length kc)
  have HA := Lib.hid (hA.below B0.out)
  have HH := Lib.hid hm
  have HC := Lib.hid h
  have eg : ∀ args w, (callFunc 24 args).run Tryd.prog w = .ok (.enter 24 args) w := enters_of Tryd.func24 (by kernel_rfl) rfl
  clear hA hm h
  go_enter Tryd.func23, Tryd.ntmps23
  go_wp2_with fail
  refine (HB.out _ HA.out).mono ?_; rintro e w1 ⟨rfl, hb1⟩
  have B1 := Lib.hid (then_below B0.out hb1)
  clear hb1
  go_wp2_with fail
  refine (HF.out _ (HH.out.below B1.out) (keep_cell B1.out HC.out)).mono ?_; rintro e w2 ⟨rfl, hb2⟩
  have B2 := Lib.hid (then_below B1.out hb2)
  clear hb2
  go_wp2_with fail
  go_ret2
  exact ⟨rfl, B2.out⟩

set_option maxRecDepth 20000 in
set_option maxHeartbeats 1000000 in
theorem re_resp (c i : Int) (a u k : ByteArray) (l : List At) (A : Option Addr) (kc : Nat) (b o : Nat) (S R : ByteArray) (w : World) (hA : Ats w A l) (hm : Home w) (h : w.cell? ⟨b, o, none⟩ = some (.string k))
    (HB : Hid (∀ w, Ats w A l → Calls Tryd.prog 45 #[pv c i u A l.length kc] w fun e w' => e = .returned (.tuple #[.string S, .int .i64 0]) ∧ Below w.heap.size w w'))
    (HF : Hid (∀ w, Home w → w.cell? ⟨b, o, none⟩ = some (.string k) → Calls Tryd.prog 30 #[.string S, .pointer (some ⟨b, o, none⟩)] w fun e w' => e = .returned (.string R) ∧ Below w.heap.size w w')) :
    Calls Tryd.prog 23 #[pv c i a A l.length kc, .string u, .func (.func 30) #[] #[.pointer (some ⟨b, o, none⟩)]] w fun e w' => e = .returned (.tuple #[.string R, .int .i64 0]) ∧ Below w.heap.size w w' := by
  have B0 := Lib.hid (re_below w c i u A l.length kc)
  have HA := Lib.hid (hA.below B0.out)
  have HH := Lib.hid hm
  have HC := Lib.hid h
  have eg : ∀ args w, (callFunc 30 args).run Tryd.prog w = .ok (.enter 30 args) w := enters_of Tryd.func30 (by kernel_rfl) rfl
  clear hA hm h
  go_enter Tryd.func23, Tryd.ntmps23
  go_wp2_with fail
  refine (HB.out _ HA.out).mono ?_; rintro e w1 ⟨rfl, hb1⟩
  have B1 := Lib.hid (then_below B0.out hb1)
  clear hb1
  go_wp2_with fail
  refine (HF.out _ (HH.out.below B1.out) (keep_cell B1.out HC.out)).mono ?_; rintro e w2 ⟨rfl, hb2⟩
  have B2 := Lib.hid (then_below B1.out hb2)
  clear hb2
  go_wp2_with fail
  go_ret2
  exact ⟨rfl, B2.out⟩

/-- What reckoned answers with the closure of Message. -/
theorem reckon_msg (c i : Int) (a u k : ByteArray) (hu : u.size ≤ maxLen) (hk : k.size ≤ 1048576) (l : List At) (hl : l.length ≤ maxLen) (A : Option Addr) (kc : Nat) (b o : Nat) (w : World) (hA : Ats w A l) (hm : Home w) (h : w.cell? ⟨b, o, none⟩ = some (.string k)) :
    Calls Tryd.prog 23 #[pv c i a A l.length kc, .string u, .func (.func 24) #[] #[.pointer (some ⟨b, o, none⟩)]] w
      fun e w' => e = .returned (.tuple #[.string (if errP c i u l = 0 then keyS k (txtP c i u l) else ⟨#[]⟩), .int .i64 (errP c i u l)]) ∧ Below w.heap.size w w' := by
  have HB := Lib.hid (fun w hA => Pac.bytes_any c i u hu l hl A kc w hA)
  cases hr : rightP c i u l with
  | true =>
    obtain ⟨e1, e2⟩ := is_right hr
    have hs : (wireP c i u l).size ≤ 1000000 := by
      have := (Pac.right_iff.1 hr)
      rw [wire_size]
      omega
    rw [e1, e2] at HB
    rw [e1, e2, if_pos rfl]
    exact re_msg c i a u k l A kc b o _ _ w hA hm h HB (Lib.hid fun w hm h => msg_fn k _ hk hs b o w hm h)
  | false =>
    obtain ⟨e1, e2⟩ := not_right hr
    rw [e1, e2] at HB
    rw [e2, if_neg (by decide)]
    exact re_err c i a u l A kc _ w hA HB

/-- What reckoned answers with the closure of Response. -/
theorem reckon_resp (c i : Int) (a u k : ByteArray) (hu : u.size ≤ maxLen) (hk : k.size ≤ 40000) (l : List At) (hl : l.length ≤ maxLen) (A : Option Addr) (kc : Nat) (b o : Nat) (w : World) (hA : Ats w A l) (hm : Home w) (h : w.cell? ⟨b, o, none⟩ = some (.string k)) :
    Calls Tryd.prog 23 #[pv c i a A l.length kc, .string u, .func (.func 30) #[] #[.pointer (some ⟨b, o, none⟩)]] w
      fun e w' => e = .returned (.tuple #[.string (if errP c i u l = 0 then sumS (txtP c i u l ++ k) else ⟨#[]⟩), .int .i64 (errP c i u l)]) ∧ Below w.heap.size w w' := by
  have HB := Lib.hid (fun w hA => Pac.bytes_any c i u hu l hl A kc w hA)
  cases hr : rightP c i u l with
  | true =>
    obtain ⟨e1, e2⟩ := is_right hr
    have hs : (wireP c i u l).size ≤ 1000000 := by
      have := (Pac.right_iff.1 hr)
      rw [wire_size]
      omega
    rw [e1, e2] at HB
    rw [e1, e2, if_pos rfl]
    exact re_resp c i a u k l A kc b o _ _ w hA hm h HB (Lib.hid fun w hm h => resp_fn k _ hk hs b o w hm h)
  | false =>
    obtain ⟨e1, e2⟩ := not_right hr
    rw [e1, e2] at HB
    rw [e2, if_neg (by decide)]
    exact re_err c i a u l A kc _ w hA HB

set_option maxRecDepth 20000 in
set_option maxHeartbeats 1000000 in
/-- Response(p, auth, secret). -/
theorem response_any (c i : Int) (a u k : ByteArray) (hu : u.size ≤ maxLen) (hk : k.size ≤ 40000) (l : List At) (hl : l.length ≤ maxLen) (A : Option Addr) (kc : Nat) (w : World) (hA : Ats w A l) (hm : Home w) :
    Calls Tryd.prog 9 #[pv c i a A l.length kc, .string u, .string k] w fun e w' => e = .returned (.tuple #[.string (rT c i u l k), .int .i64 (errP c i u l)]) ∧ Below w.heap.size w w' := by
  have B0 := Lib.hid (bel_box (box_below w (po c i a A l.length kc)) (Obj.cells #[.string k] 9))
  have HR : Hid (Calls Tryd.prog 23 #[pv c i a A l.length kc, .string u, .func (.func 30) #[] #[.pointer (some ⟨w.heap.size + 1, 0, none⟩)]] ((w.alloc (po c i a A l.length kc)).alloc (Obj.cells #[.string k] 9)) _) :=
    Lib.hid (reckon_resp c i a u k hu hk l hl A kc (w.heap.size + 1) 0 _ (hA.below B0.out) (hm.below B0.out) (Blk.new_at (W := w.alloc (po c i a A l.length kc)) [.string k] 9 (by simp)).all1)
  have e : (if errP c i u l = 0 then sumS (txtP c i u l ++ k) else ⟨#[]⟩) = rT c i u l k := rfl
  rw [e] at HR
  generalize rT c i u l k = R at *
  generalize errP c i u l = E at *
  clear hA hm e
  go_enter Tryd.func9, Tryd.ntmps9
  go_wp2_with fail
  refine HR.out.mono ?_; rintro e w1 ⟨rfl, hb1⟩
  have B1 := Lib.hid (then_below B0.out hb1)
  clear hb1
  go_wp2_with fail
  go_ret2
  exact ⟨rfl, B1.out⟩

/-- What stands while a message is reckoned: all that was there, the packet's box, and the secret's. -/
def St (w : World) (c i : Int) (a : ByteArray) (A : Option Addr) (n kc : Nat) (k : ByteArray) (W : World) : Prop := Below w.heap.size w W ∧ Blk W w.heap.size (pl c i a A n kc) ∧ W.cell? ⟨w.heap.size + 1, 0, none⟩ = some (.string k)

theorem St.keep {w : World} {c i : Int} {a : ByteArray} {A : Option Addr} {n kc : Nat} {k : ByteArray} {W W' : World} (h : Hid (St w c i a A n kc k W)) (hb : Below W.heap.size W W') : Hid (St w c i a A n kc k W') :=
  Lib.hid ⟨then_below h.out.1 hb, h.out.2.1.keep hb, keep_cell hb h.out.2.2⟩

theorem St.drew {w : World} {c i : Int} {a : ByteArray} {A : Option Addr} {n kc : Nat} {k : ByteArray} {W : World} (h : Hid (St w c i a A n kc k W)) : Hid (St w c i a A n kc k W.drew) := St.keep h ((Below.refl _ W).drew)

theorem St.two {w : World} {c i : Int} {a : ByteArray} {A : Option Addr} {n kc : Nat} {k : ByteArray} {W W' : World} (hb : Below W.heap.size W W') (h : Hid (St w c i a A n kc k W)) (o : Obj) : Hid (St w c i a A n kc k (W'.alloc o)) := St.keep (St.keep h hb) (box_below _ _)

theorem St.set {w : World} {c i : Int} {a : ByteArray} {A : Option Addr} {n kc : Nat} {k : ByteArray} {W : World} {g o : Nat} {v : Value} (hg : w.heap.size + 2 ≤ g) (h : Hid (St w c i a A n kc k W)) : Hid (St w c i a A n kc k (W.setCell ⟨g, o, none⟩ v)) :=
  Lib.hid ⟨h.out.1.setCell (p := ⟨g, o, none⟩) (show w.heap.size ≤ g by omega) v, h.out.2.1.other (by omega), cell_off (by omega) h.out.2.2⟩

/-- A store of a packet into a box of its own that lies behind the two. -/
theorem St.set4 {w : World} {c i : Int} {a : ByteArray} {A : Option Addr} {n kc : Nat} {k : ByteArray} {W : World} {g : Nat} {v0 v1 v2 v3 : Value} (hg : w.heap.size + 2 ≤ g) (h : Hid (St w c i a A n kc k W)) :
    Hid (St w c i a A n kc k ((((W.setCell ⟨g, 0, none⟩ v0).setCell ⟨g, 1, none⟩ v1).setCell ⟨g, 2, none⟩ v2).setCell ⟨g, 3, none⟩ v3)) := St.set hg (St.set hg (St.set hg (St.set hg h)))

theorem ats_set4 {W : World} {B : Option Addr} {l : List At} {g : Nat} {v0 v1 v2 v3 : Value} (h : Ats W B l) (hB : ∀ b o', B = some ⟨b, o', none⟩ → b ≠ g) :
    Ats ((((W.setCell ⟨g, 0, none⟩ v0).setCell ⟨g, 1, none⟩ v1).setCell ⟨g, 2, none⟩ v2).setCell ⟨g, 3, none⟩ v3) B l := ats_set (ats_set (ats_set (ats_set h hB) hB) hB) hB

theorem St.done {w : World} {c i : Int} {a : ByteArray} {A : Option Addr} {n kc : Nat} {k : ByteArray} {W : World} {g m kb : Nat} {B : Option Addr} {L : List At} (hB : Ats W B L) (h : Hid (St w c i a A n kc k W)) (hg : w.heap.size + 2 ≤ g) (hne : ∀ b o', B = some ⟨b, o', none⟩ → b ≠ g) :
    Hid (Ats ((((W.setCell ⟨g, 0, none⟩ (.int .i64 c)).setCell ⟨g, 1, none⟩ (.int .i64 i)).setCell ⟨g, 2, none⟩ (.string a)).setCell ⟨g, 3, none⟩ (.slice B m kb)) B L ∧
      Hid (St w c i a A n kc k ((((W.setCell ⟨g, 0, none⟩ (.int .i64 c)).setCell ⟨g, 1, none⟩ (.int .i64 i)).setCell ⟨g, 2, none⟩ (.string a)).setCell ⟨g, 3, none⟩ (.slice B m kb)))) := Lib.hid ⟨ats_set4 hB hne, St.set4 hg h⟩

theorem St.last {w : World} {c i : Int} {a : ByteArray} {A : Option Addr} {n kc : Nat} {k : ByteArray} {W : World} {o : Obj} {B : Option Addr} {L : List At} (hB : Ats W B L) (h : Hid (St w c i a A n kc k W)) :
    Hid (Ats (W.alloc o) B L ∧ Hid (St w c i a A n kc k (W.alloc o))) := Lib.hid ⟨hB.below (box_below _ _), St.keep h (box_below _ _)⟩

theorem St.lt {w : World} {c i : Int} {a : ByteArray} {A : Option Addr} {n kc : Nat} {k : ByteArray} {W : World} (h : Hid (St w c i a A n kc k W)) : w.heap.size + 2 ≤ W.heap.size := World.block_lt_of_cell? _ _ h.out.2.2

theorem St.new (w : World) (c i : Int) (a : ByteArray) (A : Option Addr) (n kc : Nat) (k : ByteArray) : Hid (St w c i a A n kc k ((w.alloc (po c i a A n kc)).alloc (Obj.cells #[.string k] 9))) :=
  Lib.hid ⟨bel_box (box_below w _) _, (Blk.new w (pl c i a A n kc) 24).more _, (Blk.new_at (W := w.alloc (po c i a A n kc)) [.string k] 9 (by simp)).all1⟩

/-- What a zero packet's cells are. -/
abbrev zl : List Value := pl 0 0 ⟨#[]⟩ none 0 0

set_option maxRecDepth 20000 in
set_option maxHeartbeats 4000000 in
/-- Message(p, auth, secret). -/
theorem message_any (c i : Int) (a u k : ByteArray) (hu : u.size ≤ maxLen) (hk : k.size ≤ 1048576) (l : List At) (hl : l.length ≤ 1000) (A : Option Addr) (kc : Nat) (w : World) (hA : Ats w A l) (hm : Home w) :
    Calls Tryd.prog 7 #[pv c i a A l.length kc, .string u, .string k] w fun e w' => e = .returned (.tuple #[.string (mT c i u l k), .int .i64 (mE c i u l)]) ∧ Below w.heap.size w w' := by
  have ST := St.new w c i a A l.length kc k
  have hW : ((w.alloc (po c i a A l.length kc)).alloc (Obj.cells #[.string k] 9)).heap.size = w.heap.size + 2 := by simp
  have HP : Hid (∀ W, Hid (St w c i a A l.length kc k W) → Calls Tryd.prog 21 #[pv c i a A l.length kc, .int .i64 80, .string Z] W fun e w' => ∃ B kb, e = .returned (pv c i a B (putA l 80 Z).length kb) ∧ (∀ b o', B = some ⟨b, o', none⟩ → W.heap.size ≤ b) ∧ Ats w' B (putA l 80 Z) ∧ Below W.heap.size W w') :=
    Lib.hid fun W h => (put_fresh c i a l hl A kc 80 Z W (hA.below h.out.1)).mono fun _ _ h => by
      obtain ⟨B, kb, h1, _, _, h4, h2, h3⟩ := h
      exact ⟨B, kb, h1, h4, h2, h3⟩
  have HZ : Hid (∀ w, Calls Tryd.prog 22 #[.string ⟨#[]⟩, .int .i64 16] w fun e w' => e = .returned (.string Z) ∧ Below w.heap.size w w') := Lib.hid (fun w => pad_any ⟨#[]⟩ 16 w (by decide))
  have hLn := put_length l 80 Z
  have HR : Hid (∀ B kb W, Ats W B (putA l 80 Z) → Hid (St w c i a A l.length kc k W) → Calls Tryd.prog 23 #[pv c i a B (putA l 80 Z).length kb, .string u, .func (.func 24) #[] #[.pointer (some ⟨w.heap.size + 1, 0, none⟩)]] W
      fun e w' => e = .returned (.tuple #[.string (mT c i u l k), .int .i64 (mE c i u l)]) ∧ Below W.heap.size W w') :=
    Lib.hid fun B kb W hB h => reckon_msg c i a u k hu hk _ (by unfold maxLen; omega) B kb _ _ W hB (hm.below h.out.1) h.out.2.2
  generalize putA l 80 Z = L at *
  generalize mT c i u l k = R at *
  generalize mE c i u l = E at *
  generalize Z = z at *
  obtain ⟨c0, c1, c2, c3⟩ := ST.out.2.1.all4
  clear hA hm hLn
  go_enter Tryd.func7, Tryd.ntmps7
  go_wp2_with fail
  generalize (w.alloc (po c i a A l.length kc)).alloc (Obj.cells #[.string k] 9) = W at *
  have F0 : Hid (Fre (W.alloc (po 0 0 ⟨#[]⟩ none 0 0)) (w.heap.size + 2) zl) := Lib.hid (by rw [← hW]; exact Fre.new W zl 24)
  obtain ⟨d0, d1, d2, d3⟩ := (ST.out.2.1.more (po 0 0 ⟨#[]⟩ none 0 0)).all4
  go_region_with (first
    | (go_at_call 22
       refine (HZ.out _).mono ?_
       rintro e w3 ⟨rfl, hb3⟩
       first
        | (have S3 := St.keep (St.drew ST) (by with_reducible exact hb3)
           obtain ⟨x0, x1, x2, x3⟩ := S3.out.2.1.all4
           obtain ⟨y0, y1, y2, y3⟩ := (S3.out.2.1.more (po 0 0 ⟨#[]⟩ none 0 0)).all4)
        | (have S3 := St.keep (St.drew (St.keep ST (box_below W (po 0 0 ⟨#[]⟩ none 0 0)))) (by with_reducible exact hb3)
           have F3 := Lib.hid (Fre.keep (Fre.drew F0.out) hb3)
           obtain ⟨x0, x1, x2, x3⟩ := S3.out.2.1.all4))
    | (go_at_call 21
       first
        | (with_reducible refine (HP.out _ S3).mono ?_
           rintro e w4 ⟨B, kb, rfl, hN, hB, hb4⟩
           have S4 := St.keep S3 hb4
           first
            | (have F4 := Lib.hid (F3.out.keep hb4)
               obtain ⟨⟨r0, r1, r2, r3⟩, s0, s1, s2, s3⟩ := F4.out.all4
               have HE := St.done (m := L.length) (kb := kb) (g := w.heap.size + 2) hB S4 (Nat.le_refl _) (fun b o' e => by have := hN b o' e; have := F3.out.2.1; omega))
            | (have HE := St.last (o := po c i a B L.length kb) hB S4))
        | (with_reducible refine (HP.out _ (St.keep S3 (box_below w3 (po 0 0 ⟨#[]⟩ none 0 0)))).mono ?_
           rintro e w4 ⟨B, kb, rfl, hN, hB, hb4⟩
           have S4 := St.keep (St.keep S3 (box_below w3 (po 0 0 ⟨#[]⟩ none 0 0))) hb4
           have F4 := Lib.hid ((Fre.new w3 zl 24).keep hb4)
           obtain ⟨⟨r0, r1, r2, r3⟩, s0, s1, s2, s3⟩ := F4.out.all4
           have HE := St.done (m := L.length) (kb := kb) (g := w3.heap.size) hB S4 (St.lt S3) (fun b o' e => by have := hN b o' e; simp at this; omega))))
  all_goals
    clear HP HZ c0 c1 c2 c3 d0 d1 d2 d3 hB hN
    go_wp2_with fail
    refine (HR.out _ _ _ HE.out.1 HE.out.2).mono ?_; rintro e w5 ⟨rfl, hb5⟩
    have B5 := Lib.hid (then_below HE.out.2.out.1 hb5)
    clear hb5
    go_wp2_with fail
    go_ret2
    exact ⟨rfl, B5.out⟩

end Sig
end Go.Proofs.YtaeeonohakkgbaaDoor
