/-
  What the document's Bytes writes of any attributes.
-/
import Derived.Test.YtaeeonohakkgbaaDoorAttH
namespace Go.Proofs.YtaeeonohakkgbaaDoor
open Go.RowKit
namespace Att
open Oct

theorem rput_one (n : Nat) (hn : n ≤ 255) (w : World) :
    Calls Tryd.prog 48 #[.int .u64 n, .int .i64 1] w fun e w' => e = .returned (.string ⟨#[UInt8.ofNat n]⟩) ∧ Below w.heap.size w w' :=
  rput_any n (by omega) 1 w

/-- A text that reads as the list. -/
abbrev tx (s : List UInt8) : ByteArray := ⟨s.toArray⟩

theorem tx_next' (s : List UInt8) (a b : UInt8) (v : ByteArray) (h : ByteArray) (e : h = tx s) : h ++ (tx [a] ++ tx [b] ++ v) = tx (s ++ (a :: b :: v.data.toList)) := by
  subst e
  apply ByteArray.ext
  simp

theorem tx_size (s : List UInt8) : (tx s).size = s.length := List.size_toArray

set_option maxHeartbeats 2000000 in
theorem rbytes_any (l : List At) (hl : l.length ≤ maxLen) (A : Option Addr) (c : Nat) (w : World) (hA : Ats w A l) :
    Calls Tryd.prog 47 #[.slice A l.length c] w fun e w' => e = .returned (.tuple #[.string (bytesT l), .int .i64 (bytesE l)]) ∧ Below w.heap.size w w' := by
  have hl' : l.length ≤ 9223372036854775807 := hl
  by_cases h1 : 64 < l.length
  · have e1 : bytesE l = 4 := if_pos h1
    have e2 : bytesT l = ⟨#[]⟩ := by unfold bytesT; rw [e1]; rfl
    rw [e1, e2]
    go_enter Tryd.func47, Tryd.ntmps47
    go_wp2
    go_ret2
    exact ⟨rfl, Below.refl _ _⟩
  · have HA := Lib.hid hA
    have HR := Lib.hid rright_any
    clear hA
    go_enter Tryd.func47, Tryd.ntmps47
    go_wp2
    go_loopw [4, 6, 12] (fun s _ ix wr => ∃ (k : Nat) (t : ByteArray), k ≤ l.length ∧ ix = .int .i64 k ∧ s = .string t ∧ Aside (t = tx (wireA (l.take k))) ∧ t.size ≤ 255 * k ∧ Aside ((l.take k).all rightA = true) ∧ Aside (Below w.heap.size w wr)) (fun _ _ ix _ => l.length - (intOf ix).toNat)
    case atStart => exact ⟨0, ⟨#[]⟩, Nat.zero_le _, rfl, rfl, rfl, Nat.zero_le _, rfl, Below.refl _ _⟩
    case round =>
      obtain ⟨k, t, hk, rfl, rfl, HT, hsz, HR2, HB⟩ := hrel
      by_cases hlt : k < l.length
      · obtain ⟨b, o, rfl, _, c0, c1⟩ := (HA.out.below HB.out).at hlt
        have HN := Lib.hid (wireA_take l k hlt)
        have HO := Lib.hid (show oneW l[k] = UInt8.ofNat l[k].1.toNat :: UInt8.ofNat (2 + l[k].2.size) :: l[k].2.data.toList from rfl)
        have HRK := Lib.hid (HR.out l[k])
        have HBX := Lib.hid (Bx.bel_box HB.out (Obj.cells #[.int .i64 l[k].1, .string l[k].2] 39))
        have HX0 := Lib.hid (Boxed.new wr l[k])
        by_cases hr : rightA l[k] = true
        · have HR3 : Hid ((l.take (k + 1)).all rightA = true) := Lib.hid (by rw [List.take_succ_eq_append_getElem hlt, List.all_append, HR2.out]; simp [hr])
          obtain ⟨r1, r2, r3⟩ := (right_iff l[k]).1 hr
          have HP2 := Lib.hid (fun (w : World) => rput_one (2 + l[k].2.size) (by omega) w)
          rw [hr] at HRK
          generalize l[k] = x at *
          obtain ⟨x1, x2⟩ := x
          simp only at c0 c1 r1 r2 r3 HP2 HO HBX HRK
          obtain ⟨n, rfl⟩ := Int.eq_ofNat_of_zero_le (show 0 ≤ x1 by omega)
          have HP := Lib.hid (rput_one n (by omega))
          rw [Int.toNat_natCast] at HO
          have z1 := tx_size [UInt8.ofNat n]
          have z2 := tx_size [UInt8.ofNat (2 + x2.size)]
          rw [show (⟨#[UInt8.ofNat n]⟩ : ByteArray) = tx [UInt8.ofNat n] from rfl] at HP
          rw [show (⟨#[UInt8.ofNat (2 + x2.size)]⟩ : ByteArray) = tx [UInt8.ofNat (2 + x2.size)] from rfl] at HP2
          have HE := Lib.hid (tx_next' (wireA (l.take k)) (UInt8.ofNat n) (UInt8.ofNat (2 + x2.size)) x2 t HT.out)
          rw [← HO.out, ← HN.out] at HE
          generalize tx [UInt8.ofNat n] = N at *
          generalize tx [UInt8.ofNat (2 + x2.size)] = L at *
          simp only [List.length_cons, List.length_nil] at z1 z2
          have z3 : ¬ (2 + x2.size > 9223372036854775807) := by omega
          have z4 : ¬ (t.size + (2 + x2.size) > 9223372036854775807) := by omega
          have hz5 : (t ++ (N ++ L ++ x2)).size ≤ 255 * (k + 1) := by rw [ByteArray.size_append, ByteArray.size_append, ByteArray.size_append]; omega
          have q1 : IntKind.u64.wrap (n : Int) = n := by rw [IntKind.wrap_u64]; omega
          have q2 : IntKind.i64.wrap (2 + (x2.size : Int)) = 2 + (x2.size : Int) := by rw [IntKind.wrap_i64]; omega
          have q3 : IntKind.u64.wrap (2 + (x2.size : Int)) = 2 + (x2.size : Int) := by rw [IntKind.wrap_u64]; omega
          simp only [show ((2 + x2.size : Nat) : Int) = 2 + (x2.size : Int) by omega] at HP2
          go_wp2_with fail
          refine (HRK.out _).mono ?_; rintro e w1 ⟨rfl, hb1⟩
          have HX1 := Lib.hid (HX0.out.below hb1)
          have bel := Bx.then_below HBX.out hb1
          have d0 := HX1.out.c0
          have d1 := HX1.out.c1
          simp only at d0 d1
          generalize wr.heap.size = m at *
          clear hb1 HX0 HX1 HBX HRK c0 c1
          go_wp2_with fail
          go_region_held3 (fun w' => w'.cell? ⟨m, 0, none⟩ = some (.int .i64 n) ∧ w'.cell? ⟨m, 1, none⟩ = some (.string x2))
            (first | go_keep | (go_split_ands; exact ⟨Bx.keep_cell (by assumption) (by assumption), Bx.keep_cell (by assumption) (by assumption)⟩))
            (first | (go_at_call 48; with_reducible refine (HP.out _).mono ?_; rintro e w2 ⟨rfl, hb2⟩) | (go_at_call 48; with_reducible refine (HP2.out _).mono ?_; rintro e w3 ⟨rfl, hb3⟩))
          have HB3 := Lib.hid (Bx.then_below (Bx.bel_drew bel hb2) hb3)
          go_wp2
          go_roundw
          case rel => exact ⟨k + 1, _, by omega, by go_num, rfl, HE.out, hz5, HR3.out, HB3.out⟩
          case measure => simp [intOf]; omega
        · rw [Bool.not_eq_true] at hr
          have e1 : bytesE l = 1 := by
            unfold bytesE
            rw [if_neg h1, if_neg (fun h => by have := List.all_eq_true.1 h _ (List.getElem_mem hlt); rw [hr] at this; cases this)]
          have e2 : bytesT l = ⟨#[]⟩ := by unfold bytesT; rw [e1]; rfl
          rw [hr] at HRK
          generalize l[k] = x at *
          obtain ⟨x1, x2⟩ := x
          simp only at c0 c1 HBX HRK
          go_wp2_with fail
          refine (HRK.out _).mono ?_; rintro e w1 ⟨rfl, hb1⟩
          have bel := Bx.then_below HBX.out hb1
          go_wp2_with fail
          go_ret2
          exact ⟨by rw [e1, e2]; rfl, bel⟩
      · have e0 : l.all rightA = true := by have := HR2.out; rwa [List.take_of_length_le (by omega)] at this
        have e1 : bytesE l = 0 := by unfold bytesE; rw [if_neg h1, if_pos e0]
        have e2 : bytesT l = t := by unfold bytesT; rw [e1, HT.out, List.take_of_length_le (by omega)]; rfl
        go_wp2
        go_ret2
        exact ⟨by rw [e1, e2]; rfl, HB.out⟩

end Att
end Go.Proofs.YtaeeonohakkgbaaDoor
