/-
  What ports.port, Text, List and Next answer, and the document beside them, for every set.
-/
import Derived.Test.YtkjdnmlaehjmgaaPorA
import Derived.Test.YtkjdnmlaehjmgaaBox
import Derived.Test.YtkjdnmlaehjmgaaInts
import Derived.Deep.LoopGhost
import Derived.Laws.Runes
namespace Go.Proofs.Ytkjdnmlaehjmgaa
open Go.RowKit
namespace Por

theorem digs_at : ∀ k : Fin 8, ((⟨#[48, 49, 50, 51, 52, 53, 54, 55]⟩ : ByteArray)[k.val]'k.isLt).toNat = 48 + k.val := by decide +kernel

theorem next_dig {P : Program} (w : World) (k : Nat) (hk : k < 8) (ty : TypeId) :
    (Instr.next (.pointer (some ⟨w.heap.size, 0, none⟩)) true ty).run P (w.iter ⟨#[48, 49, 50, 51, 52, 53, 54, 55]⟩ k) =
      .ok (.tuple #[.bool true, .int .i64 k, .int .i32 (48 + (k : Int))]) (w.iter ⟨#[48, 49, 50, 51, 52, 53, 54, 55]⟩ (k + 1)) := by
  have h := digs_at ⟨k, hk⟩
  simp only at h
  rw [run_next_ascii w ⟨#[48, 49, 50, 51, 52, 53, 54, 55]⟩ k ty hk (by omega), h]
  rfl

theorem next_done {P : Program} (w : World) (ty : TypeId) :
    (Instr.next (.pointer (some ⟨w.heap.size, 0, none⟩)) true ty).run P (w.iter ⟨#[48, 49, 50, 51, 52, 53, 54, 55]⟩ 8) = .ok (.tuple #[.bool false]) (w.iter ⟨#[48, 49, 50, 51, 52, 53, 54, 55]⟩ 8) :=
  run_next_end w _ 8 ty (by show ¬ 8 < 8; omega)

theorem iter_below (w : World) (s : ByteArray) (k : Nat) : Below w.heap.size w (w.iter s k) := Bx.box_below w _

theorem enc_dig : ∀ k : Fin 8, (Utf8.encode (48 + (k.val : Int))).data = #[dig k.val] := by decide +kernel

theorem enc_at (k : Nat) (h : k < 8) : Utf8.encode (48 + (k : Int)) = ⟨#[dig k]⟩ := ByteArray.ext (enc_dig ⟨k, h⟩)

theorem app_one (l : List UInt8) (b : UInt8) : (⟨l.toArray⟩ : ByteArray) ++ (⟨#[b]⟩ : ByteArray) = ⟨(l ++ [b]).toArray⟩ := by
  apply ByteArray.ext
  simp

theorem has_at (x : Int) (k : Nat) (h : k < 8) (b : Bool) (hb : hasN (low x) k = b) (w : World) :
    Calls Try.prog 14 #[.int .i64 x, .int .i64 k] w fun e w' => e = .returned (.bool b) ∧ w = w' := by
  have := has_any x k w
  rw [hasZ_nat _ _ h, hb] at this
  exact this

theorem rhas_at (x : Int) (k : Nat) (h : k < 8) (b : Bool) (hb : hasN (low x) k = b) (w : World) :
    Calls Try.prog 23 #[.int .i64 x, .int .i64 k] w fun e w' => e = .returned (.bool b) ∧ w = w' := by
  have := rhas_any x k w
  rw [hasZ_nat _ _ h, hb] at this
  exact this

theorem text_none (m : Nat) (hm : m = 0) : textB m = ⟨#[45]⟩ := by subst hm; rfl

theorem text_some (m : Nat) (hm : m ≠ 0) : textB m = ⟨(digL m 8).toArray⟩ := by unfold textB textL; rw [if_neg hm]

theorem info_int : (Try.prog.info? 3).map (fun i => (i.zero, i.size, i.bytes)) = some (some (.int .i64 0), 1, 8) := by kernel_rfl

/-- Ints as cells. -/
def iv (l : List Int) : List Value := l.map (Value.int .i64)

theorem iv_len (l : List Int) : (iv l).length = l.length := by simp [iv]

theorem own_form {w : World} {base n : Nat} {e : TypeId} {v : Value} {xs : List Value} (h : w.ownsRow base e 1 v n xs) : ∃ B c, v = .slice B n c := by
  rcases h.2 with ⟨rfl, rfl⟩ | ⟨g, cap, cur, rfl, _⟩
  · exact ⟨none, 0, rfl⟩
  · exact ⟨_, _, rfl⟩

set_option maxRecDepth 100000 in
set_option maxHeartbeats 1000000 in
theorem list_any (x : Int) (w : World) :
    Calls Try.prog 21 #[.int .i64 x] w (Bx.Gives (listI (low x) 8) w) := by
  obtain ⟨i0, hi, hz0, hz1, hz2⟩ := info_parts info_int
  go_enter Try.func21, Try.ntmps21
  go_wp2
  go_loopw [3, 5] (fun v i wr => ∃ (k : Nat) (B : Option Addr) (c : Nat) (o : List Int), k ≤ 8 ∧ i = .int .i64 k ∧ v = .slice B o.length c ∧ o.length ≤ k ∧ Aside (o = listI (low x) k) ∧
    Aside (wr.ownsRow w.heap.size 3 1 (.slice B o.length c) o.length (iv o)) ∧ Below w.heap.size w wr) (fun _ i _ => 8 - (intOf i).toNat)
  case atStart => exact ⟨0, none, 0, [], Nat.zero_le _, rfl, rfl, Nat.zero_le _, rfl, World.ownsRow_nil _ _ _ _, Below.refl _ _⟩
  case round =>
    obtain ⟨k, B, c, o, hk, rfl, rfl, ho, HO, HW, hb⟩ := hrel
    by_cases hlt : k < 8
    · cases hm : hasN (low x) k with
      | true =>
        have hH := Lib.hid (has_at x k hlt true hm)
        have HN := Lib.hid (show o ++ [(k : Int)] = listI (low x) (k + 1) by rw [listI_yes _ _ hm, ← HO.out])
        clear hm
        go_wp2_with fail
        refine (hH.out _).mono ?_; rintro e w' ⟨rfl, rfl⟩
        go_wp2_with (at_builtin; refine wpList_append_own _ rfl _ _ 49 rfl w.heap.size 3 i0 (.int .i64 0) 1 8 Try.underlying49 hi hz0 hz1 hz2 rfl (by decide) _ _ _ rfl (HW.out.alloc _) ⟨wr.heap.size, 0, none⟩ 1 1 [.int .i64 k] rfl rfl ?c1 ?c2 ?c3 ?c4 ?c5 ?_)
        case c1 => exact cell_one_new _ _ _
        case c2 => intro u hu; simp at hu; subst hu; rfl
        case c3 => unfold maxLen; omega
        case c4 => omega
        case c5 => have := hb.size; simp; omega
        intro v' w2 hown' hgrow _
        have hrow := (HW.out).lt
        have bel := (Bx.bel_box hb (Obj.cells #[.int .i64 k] 3)).grown hgrow (by have := hb.size; simp; omega) (fun q hq => (hrow q hq).1)
        obtain ⟨B', c', rfl⟩ := own_form hown'
        have HW2 := Lib.hid hown'
        clear hown' hgrow hrow
        go_wp2
        go_roundw
        case rel =>
          refine ⟨k + 1, B', c', o ++ [(k : Int)], by omega, by go_num, by simp, by simp; omega, HN.out, ?_, bel⟩
          have := HW2.out
          simpa [iv, Aside] using this
        case measure => simp [intOf]; omega
      | false =>
        have hH := Lib.hid (has_at x k hlt false hm)
        have HN := Lib.hid (show o = listI (low x) (k + 1) by rw [listI_no _ _ hm, ← HO.out])
        clear hm
        go_wp2_with fail
        refine (hH.out _).mono ?_; rintro e w' ⟨rfl, rfl⟩
        go_wp2
        go_roundw
        case rel => exact ⟨k + 1, B, c, o, by omega, by go_num, rfl, by omega, HN.out, HW.out, hb⟩
        case measure => simp [intOf]; omega
    · obtain rfl : k = 8 := by omega
      obtain ⟨A, cap, hv, hI⟩ := Bx.Ints.of_own HW.out
      have HF := Lib.hid (show Bx.Gives (listI (low x) 8) w (.returned (.slice B o.length c)) wr by
        rw [← HO.out]
        exact ⟨A, cap, by rw [hv], hI, hb⟩)
      clear hv hI
      go_wp2
      go_ret
      exact HF.out

end Por
end Go.Proofs.Ytkjdnmlaehjmgaa
