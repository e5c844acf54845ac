/-
  What eap.Right, and the document's answer beside it, say of any packet; and that they change nothing that was there.
-/
import Derived.Test.YtmgjjcadeikdgaaOctRef
import Derived.Test.YtmgjjcadeikdgaaBox
import Derived.Test.YtmgjjcadeikdgaaEapNum
import Derived.Deep.RegionHeld3
namespace Go.Proofs.Ytmgjjcadeikdgaa
open Go.RowKit
namespace Eap
open Oct Mac Eth Epl

/-- A packet, as a value. -/
abbrev pk (c i t : Int) (d : ByteArray) : Value := .agg #[.int .i64 c, .int .i64 i, .int .i64 t, .string d]

theorem ret_bool {a b : Bool} (h : a = b) : Ending.returned (.bool a) = .returned (.bool b) := by rw [h]

theorem size_pos {b : ByteArray} (h : b ≠ ⟨#[]⟩) : b.size ≠ 0 := fun h' => h (size_zero h')

theorem full_list {b : ByteArray} (h : b ≠ ⟨#[]⟩) : b.toList.isEmpty = false := by
  rw [ByteArray.toList_eq]
  cases hl : b.data.toList with
  | nil => exact absurd (size_zero (by show b.data.size = 0; rw [← Array.length_toList, hl]; rfl)) h
  | cons _ _ => rfl

theorem within_is (n a b : Int) (r : Bool) (h : decide (a ≤ n ∧ n ≤ b) = r) (w : World) :
    Calls Try.prog 33 #[.int .i64 n, .int .i64 a, .int .i64 b] w fun e w' => e = .returned (.bool r) ∧ w = w' := by
  subst h
  rcases (show ¬ a ≤ n ∨ a ≤ n by omega) with h1 | h1 <;>
  · go_enter Try.func33, Try.ntmps33
    go_wp2
    go_ret
    exact ⟨ret_bool (by rw [Bool.eq_iff_iff]; simp <;> omega), rfl⟩

theorem typed_yes (c : Int) (h : c = 1 ∨ c = 2) (w : World) :
    Calls Try.prog 26 #[.int .i64 c] w fun e w' => e = .returned (.bool true) ∧ w = w' := by
  rcases h with rfl | rfl <;>
  · go_enter Try.func26, Try.ntmps26
    go_wp2
    go_ret
    exact ⟨rfl, rfl⟩

theorem typed_no (c : Int) (h1 : (c == 1) = false) (h2 : (c == 2) = false) (w : World) :
    Calls Try.prog 26 #[.int .i64 c] w fun e w' => e = .returned (.bool false) ∧ w = w' := by
  go_enter Try.func26, Try.ntmps26
  go_wp2
  go_ret
  exact ⟨rfl, rfl⟩

theorem rtyped_yes (c : Int) (h : c = 1 ∨ c = 2) (w : World) :
    Calls Try.prog 29 #[.int .i64 c] w fun e w' => e = .returned (.bool true) ∧ w = w' := by
  rcases h with rfl | rfl <;>
  · go_enter Try.func29, Try.ntmps29
    go_wp2
    go_ret
    exact ⟨rfl, rfl⟩

theorem rtyped_no (c : Int) (h1 : (c == 1) = false) (h2 : (c == 2) = false) (w : World) :
    Calls Try.prog 29 #[.int .i64 c] w fun e w' => e = .returned (.bool false) ∧ w = w' := by
  go_enter Try.func29, Try.ntmps29
  go_wp2
  go_ret
  exact ⟨rfl, rfl⟩

theorem bare_any (c i t : Int) (d : ByteArray) (w : World) :
    Calls Try.prog 34 #[pk c i t d] w fun e w' => e = .returned (pk c i 0 ⟨#[]⟩) ∧ Below w.heap.size w w' := by
  go_enter Try.func34, Try.ntmps34
  go_wp2_with fail
  refine bodyPost_ret (v := pk c i 0 ⟨#[]⟩) ?_ rfl ⟨rfl, ?_⟩
  · simp [results, Try.results34, go_sem]
  · exact ((Below.refl _ _).alloc (Nat.le_refl _) _).alloc (by simp) _

theorem right_code (c i t : Int) (d : ByteArray) (w : World) (h : decide (1 ≤ c ∧ c ≤ 4) = false) :
    Calls Try.prog 12 #[pk c i t d] w fun e w' => e = .returned (.bool false) ∧ Below w.heap.size w w' := by
  go_enter Try.func12, Try.ntmps12
  go_wp2_with fail
  refine (within_is _ _ _ false h _).mono ?_; rintro e w' ⟨rfl, rfl⟩
  go_wp2_with fail
  go_ret
  exact ⟨rfl, Bx.box_below _ _⟩

theorem right_id (c i t : Int) (d : ByteArray) (w : World) (h : decide (1 ≤ c ∧ c ≤ 4) = true) (h2 : decide (0 ≤ i ∧ i ≤ 255) = false) :
    Calls Try.prog 12 #[pk c i t d] w fun e w' => e = .returned (.bool false) ∧ Below w.heap.size w w' := by
  go_enter Try.func12, Try.ntmps12
  go_wp2_with fail
  refine (within_is _ _ _ true h _).mono ?_; rintro e w' ⟨rfl, rfl⟩
  go_wp2_with fail
  refine (within_is _ _ _ false h2 _).mono ?_; rintro e w' ⟨rfl, rfl⟩
  go_wp2_with fail
  go_ret
  exact ⟨rfl, Bx.box_below _ _⟩

theorem right_typed (c i t : Int) (d : ByteArray) (w : World) (hc : c = 1 ∨ c = 2) (h2 : decide (0 ≤ i ∧ i ≤ 255) = true) (hd : d.size ≤ 9223372036854775807) :
    Calls Try.prog 12 #[pk c i t d] w fun e w' => e = .returned (.bool (decide (1 ≤ t ∧ t ≤ 255 ∧ d.size ≤ 1019))) ∧ Below w.heap.size w w' := by
  have h : decide (1 ≤ c ∧ c ≤ 4) = true := by rw [decide_eq_true_iff]; omega
  cases h3 : decide (1 ≤ t ∧ t ≤ 255)
  · go_enter Try.func12, Try.ntmps12
    go_wp2_with fail
    refine (within_is _ _ _ true h _).mono ?_; rintro e w' ⟨rfl, rfl⟩
    go_wp2_with fail
    refine (within_is _ _ _ true h2 _).mono ?_; rintro e w' ⟨rfl, rfl⟩
    go_wp2_with fail
    refine (typed_yes _ hc _).mono ?_; rintro e w' ⟨rfl, rfl⟩
    go_wp2_with fail
    refine (within_is _ _ _ false h3 _).mono ?_; rintro e w' ⟨rfl, rfl⟩
    go_wp2_with fail
    go_ret
    exact ⟨ret_bool (by symm; rw [decide_eq_false_iff_not] at h3 ⊢; omega), Bx.box_below _ _⟩
  · go_enter Try.func12, Try.ntmps12
    go_wp2_with fail
    refine (within_is _ _ _ true h _).mono ?_; rintro e w' ⟨rfl, rfl⟩
    go_wp2_with fail
    refine (within_is _ _ _ true h2 _).mono ?_; rintro e w' ⟨rfl, rfl⟩
    go_wp2_with fail
    refine (typed_yes _ hc _).mono ?_; rintro e w' ⟨rfl, rfl⟩
    go_wp2_with fail
    refine (within_is _ _ _ true h3 _).mono ?_; rintro e w' ⟨rfl, rfl⟩
    go_wp2_with fail
    go_ret
    exact ⟨ret_bool (by rw [decide_eq_true_iff] at h3; rw [Bool.eq_iff_iff]; simp <;> omega), Bx.box_below _ _⟩

theorem right_bare (c i t : Int) (d : ByteArray) (w : World) (hc : c = 3 ∨ c = 4) (h2 : decide (0 ≤ i ∧ i ≤ 255) = true) (Q P : Bool) (hQ : (t == 0) = P) (hP : d.toList.isEmpty = Q) :
    Calls Try.prog 12 #[pk c i t d] w fun e w' => e = .returned (.bool (P && Q)) ∧ Below w.heap.size w w' := by
  have h : decide (1 ≤ c ∧ c ≤ 4) = true := by rw [decide_eq_true_iff]; omega
  have e1 : (c == 1) = false := by simp; omega
  have e2 : (c == 2) = false := by simp; omega
  have x0 : (c == c) = true := by simp
  have x1 : (i == i) = true := by simp
  cases P <;> cases Q <;>
  · go_enter Try.func12, Try.ntmps12
    go_wp2_with fail
    refine (within_is _ _ _ true h _).mono ?_; rintro e w' ⟨rfl, rfl⟩
    go_wp2_with fail
    refine (within_is _ _ _ true h2 _).mono ?_; rintro e w' ⟨rfl, rfl⟩
    go_wp2_with fail
    refine (typed_no _ e1 e2 _).mono ?_; rintro e w' ⟨rfl, rfl⟩
    go_wp2_with fail
    have B0 := Lib.hid (Bx.Blk.new w [.int .i64 c, .int .i64 i, .int .i64 t, .string d] 23)
    have c0 := B0.out.at 0 rfl
    have c1 := B0.out.at 1 rfl
    have c2 := B0.out.at 2 rfl
    have c3 := B0.out.at 3 rfl
    go_region_held3 (fun w' => w'.cell? ⟨w.heap.size, 0, none⟩ = some (.int .i64 c) ∧ w'.cell? ⟨w.heap.size, 1, none⟩ = some (.int .i64 i) ∧ w'.cell? ⟨w.heap.size, 2, none⟩ = some (.int .i64 t) ∧ w'.cell? ⟨w.heap.size, 3, none⟩ = some (.string d))
      (first | go_keep | (go_split_ands; exact ⟨Bx.keep_cell (by assumption) (by assumption), Bx.keep_cell (by assumption) (by assumption), Bx.keep_cell (by assumption) (by assumption), Bx.keep_cell (by assumption) (by assumption)⟩))
      (first | (go_at_call 34; with_reducible refine (bare_any c i t d _).mono ?_; rintro e w2 ⟨rfl, hb2⟩))
    go_wp2
    go_ret
    exact ⟨rfl, Bx.bel_drew (Bx.box_below _ _) hb2⟩

theorem right_any (c i t : Int) (d : ByteArray) (w : World) (hd : d.size ≤ 9223372036854775807) :
    Calls Try.prog 12 #[pk c i t d] w fun e w' => e = .returned (.bool (rightP c i t d)) ∧ Below w.heap.size w w' := by
  by_cases hc : 1 ≤ c ∧ c ≤ 4
  case neg =>
    rw [show rightP c i t d = false by unfold rightP; rw [decide_eq_false_iff_not]; omega]
    exact right_code c i t d w (decide_eq_false hc)
  by_cases hi : 0 ≤ i ∧ i ≤ 255
  case neg =>
    rw [show rightP c i t d = false by unfold rightP; rw [decide_eq_false_iff_not]; omega]
    exact right_id c i t d w (decide_eq_true hc) (decide_eq_false hi)
  by_cases h1 : c = 1 ∨ c = 2
  · rw [show rightP c i t d = decide (1 ≤ t ∧ t ≤ 255 ∧ d.size ≤ 1019) by unfold rightP; rw [decide_eq_decide]; omega]
    exact right_typed c i t d w h1 (decide_eq_true hi) hd
  · have h3 : c = 3 ∨ c = 4 := by omega
    by_cases ht : t = 0
    · by_cases hz : d = ⟨#[]⟩
      · subst hz
        rw [show rightP c i t ⟨#[]⟩ = (true && true) by unfold rightP; rw [Bool.and_self, decide_eq_true_iff]; exact ⟨hi.1, hi.2, Or.inr ⟨h3, ht, rfl⟩⟩]
        exact right_bare c i t ⟨#[]⟩ w h3 (decide_eq_true hi) true true (by simp [ht]) (by decide +kernel)
      · rw [show rightP c i t d = (true && false) by unfold rightP; rw [Bool.and_false, decide_eq_false_iff_not]; have := size_pos hz; omega]
        exact right_bare c i t d w h3 (decide_eq_true hi) false true (by simp [ht]) (full_list hz)
    · rw [show rightP c i t d = (false && d.toList.isEmpty) by unfold rightP; rw [Bool.false_and, decide_eq_false_iff_not]; omega]
      exact right_bare c i t d w h3 (decide_eq_true hi) _ false (by simp [ht]) rfl

theorem rright_out (c i t : Int) (d : ByteArray) (w : World) (h : ¬ 1 ≤ c ∨ (1 ≤ c ∧ ¬ c ≤ 4) ∨ (1 ≤ c ∧ c ≤ 4 ∧ ¬ 0 ≤ i) ∨ (1 ≤ c ∧ c ≤ 4 ∧ 0 ≤ i ∧ ¬ i ≤ 255)) :
    Calls Try.prog 13 #[pk c i t d] w fun e w' => e = .returned (.bool false) ∧ Below w.heap.size w w' := by
  rcases h with h1 | ⟨h1, h2⟩ | ⟨h1, h2, h3⟩ | ⟨h1, h2, h3, h4⟩ <;>
  · go_enter Try.func13, Try.ntmps13
    go_wp2_with fail
    go_ret
    exact ⟨rfl, Bx.box_below _ _⟩

theorem rright_typed (c i t : Int) (d : ByteArray) (w : World) (hc : c = 1 ∨ c = 2) (h1 : 0 ≤ i) (h2 : i ≤ 255) (hd : d.size ≤ 9223372036854775807) :
    Calls Try.prog 13 #[pk c i t d] w fun e w' => e = .returned (.bool (decide (1 ≤ t ∧ t ≤ 255 ∧ d.size ≤ 1019))) ∧ Below w.heap.size w w' := by
  have c1 : 1 ≤ c := by omega
  have c2 : c ≤ 4 := by omega
  rcases (show ¬ 1 ≤ t ∨ (1 ≤ t ∧ t ≤ 255) ∨ (1 ≤ t ∧ ¬ t ≤ 255) by omega) with g1 | ⟨g1, g2⟩ | ⟨g1, g2⟩ <;>
  · go_enter Try.func13, Try.ntmps13
    go_wp2_with fail
    refine (rtyped_yes _ hc _).mono ?_; rintro e w' ⟨rfl, rfl⟩
    go_wp2_with fail
    go_ret
    exact ⟨ret_bool (by rw [Bool.eq_iff_iff]; simp <;> omega), Bx.box_below _ _⟩

theorem rright_bare (c i t : Int) (d : ByteArray) (w : World) (hc : c = 3 ∨ c = 4) (h1 : 0 ≤ i) (h2 : i ≤ 255) (Q P : Bool) (hQ : (t == 0) = P) (hP : d.toList.isEmpty = Q) :
    Calls Try.prog 13 #[pk c i t d] w fun e w' => e = .returned (.bool (P && Q)) ∧ Below w.heap.size w w' := by
  have c1 : 1 ≤ c := by omega
  have c2 : c ≤ 4 := by omega
  have e1 : (c == 1) = false := by simp; omega
  have e2 : (c == 2) = false := by simp; omega
  cases P <;> cases Q <;>
  · go_enter Try.func13, Try.ntmps13
    go_wp2_with fail
    refine (rtyped_no _ e1 e2 _).mono ?_; rintro e w' ⟨rfl, rfl⟩
    go_wp2_with fail
    go_ret
    exact ⟨rfl, Bx.box_below _ _⟩

theorem rright_any (c i t : Int) (d : ByteArray) (w : World) (hd : d.size ≤ 9223372036854775807) :
    Calls Try.prog 13 #[pk c i t d] w fun e w' => e = .returned (.bool (rightP c i t d)) ∧ Below w.heap.size w w' := by
  by_cases hc : (1 ≤ c ∧ c ≤ 4) ∧ 0 ≤ i ∧ i ≤ 255
  case neg =>
    rw [show rightP c i t d = false by unfold rightP; rw [decide_eq_false_iff_not]; omega]
    exact rright_out c i t d w (by omega)
  obtain ⟨hc, hi⟩ := hc
  by_cases h1 : c = 1 ∨ c = 2
  · rw [show rightP c i t d = decide (1 ≤ t ∧ t ≤ 255 ∧ d.size ≤ 1019) by unfold rightP; rw [decide_eq_decide]; omega]
    exact rright_typed c i t d w h1 hi.1 hi.2 hd
  · have h3 : c = 3 ∨ c = 4 := by omega
    by_cases ht : t = 0
    · by_cases hz : d = ⟨#[]⟩
      · subst hz
        rw [show rightP c i t ⟨#[]⟩ = (true && true) by unfold rightP; rw [Bool.and_self, decide_eq_true_iff]; exact ⟨hi.1, hi.2, Or.inr ⟨h3, ht, rfl⟩⟩]
        exact rright_bare c i t ⟨#[]⟩ w h3 hi.1 hi.2 true true (by simp [ht]) (by decide +kernel)
      · rw [show rightP c i t d = (true && false) by unfold rightP; rw [Bool.and_false, decide_eq_false_iff_not]; have := size_pos hz; omega]
        exact rright_bare c i t d w h3 hi.1 hi.2 false true (by simp [ht]) (full_list hz)
    · rw [show rightP c i t d = (false && d.toList.isEmpty) by unfold rightP; rw [Bool.false_and, decide_eq_false_iff_not]; omega]
      exact rright_bare c i t d w h3 hi.1 hi.2 _ false (by simp [ht]) rfl

end Eap
end Go.Proofs.Ytmgjjcadeikdgaa
