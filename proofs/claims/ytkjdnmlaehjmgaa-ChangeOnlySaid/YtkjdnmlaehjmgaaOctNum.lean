/-
  Plain facts on numbers in texts of bytes (no program): the lowest bytes of a number put, highest first, and got again.
-/
namespace Go.Proofs.Ytkjdnmlaehjmgaa
namespace Oct

/-- The lowest k bytes of n, the highest first. -/
def putL (n : Nat) : Nat → List UInt8
  | 0 => []
  | k + 1 => putL (n / 256) k ++ [UInt8.ofNat n]

/-- The number of a list of bytes, the highest first, going on from n. -/
def getL (n : Nat) (l : List UInt8) : Nat := l.foldl (fun n b => n * 256 + b.toNat) n

theorem putL_length (n k : Nat) : (putL n k).length = k := by
  induction k generalizing n with
  | zero => rfl
  | succ k ih => simp [putL, ih]

theorem getL_append (n : Nat) (l m : List UInt8) : getL n (l ++ m) = getL (getL n l) m := by
  simp [getL, List.foldl_append]

theorem getL_snoc (n : Nat) (l : List UInt8) (b : UInt8) : getL n (l ++ [b]) = getL n l * 256 + b.toNat := by
  simp [getL]

theorem getL_putL (n k : Nat) : getL 0 (putL n k) = n % 256 ^ k := by
  induction k generalizing n with
  | zero => simp [putL, getL, Nat.mod_one]
  | succ k ih =>
    rw [putL, getL_snoc, ih, Nat.pow_succ, Nat.mul_comm (256 ^ k) 256, Nat.mod_mul]
    simp
    omega

theorem getL_lt (l : List UInt8) : getL 0 l < 256 ^ l.length := by
  suffices h : ∀ r : List UInt8, getL 0 r.reverse < 256 ^ r.length by
    have := h l.reverse
    simpa using this
  intro r
  induction r with
  | nil => simp [getL]
  | cons b r ih =>
    rw [List.reverse_cons, getL_snoc, List.length_cons, Nat.pow_succ]
    have := b.toNat_lt
    have h2 : getL 0 r.reverse + 1 ≤ 256 ^ r.length := ih
    have h3 := Nat.mul_le_mul_right 256 h2
    omega

/-- How many bytes Put gives at a width. -/
def clampW (width : Int) : Nat := (min (max width 0) 8).toNat

theorem clampW_le (width : Int) : clampW width ≤ 8 := by unfold clampW; omega

/-- Cut's error, and its text. -/
def cutE (size a n : Int) : Int := if a < 0 ∨ size < a ∨ n < 0 then 1 else if size - a < n then 2 else 0
def cutS (s : ByteArray) (a n : Int) : ByteArray := if cutE s.size a n = 0 then s.extract a.toNat (a + n).toNat else ByteArray.empty

theorem cutE_zero {size a n : Int} : cutE size a n = 0 ↔ 0 ≤ a ∧ a ≤ size ∧ 0 ≤ n ∧ n ≤ size - a := by
  unfold cutE
  split <;> (try split) <;> omega

theorem cutE_cases (size a n : Int) : cutE size a n = 0 ∨ cutE size a n = 1 ∨ cutE size a n = 2 := by
  unfold cutE
  split <;> (try split) <;> simp

theorem cutS_size (s : ByteArray) (a n : Int) (h : cutE s.size a n = 0) : ((cutS s a n).size : Int) = n := by
  have h' := cutE_zero.1 h
  simp only [cutS, h, if_true, ByteArray.size_extract]
  omega

theorem cutS_none (s : ByteArray) (a n : Int) (h : cutE s.size a n ≠ 0) : cutS s a n = ByteArray.empty := by
  simp [cutS, h]

/-- Get's answer. -/
def getR (s : ByteArray) (a width : Int) : Nat × Int := if width < 1 ∨ 8 < width then (0, 1) else if cutE s.size a width ≠ 0 then (0, cutE s.size a width) else (getL 0 (cutS s a width).data.toList, 0)

theorem take_snoc (p : ByteArray) (k : Nat) (h : k < p.size) : p.data.toList.take (k + 1) = p.data.toList.take k ++ [p[k]] := by
  rw [List.take_succ_eq_append_getElem (by simpa using h)]; rfl

theorem getL_take_lt (p : ByteArray) (k : Nat) (hk : k ≤ 7) : getL 0 (p.data.toList.take k) < 72057594037927936 := by
  refine Nat.lt_of_lt_of_le (getL_lt _) ?_
  have : 256 ^ (p.data.toList.take k).length ≤ 256 ^ 7 := Nat.pow_le_pow_right (by omega) (by simp; omega)
  omega

/-- A number below 16 as a digit. -/
def hexD (n : Nat) : UInt8 := if n < 10 then UInt8.ofNat (48 + n) else UInt8.ofNat (87 + n)

/-- Two digits of each byte. -/
def hexL : List UInt8 → List UInt8
  | [] => []
  | b :: l => hexD (b.toNat / 16) :: hexD (b.toNat % 16) :: hexL l

theorem hexL_append (l m : List UInt8) : hexL (l ++ m) = hexL l ++ hexL m := by
  induction l with
  | nil => rfl
  | cons b l ih => simp [hexL, ih]

theorem hexL_length (l : List UInt8) : (hexL l).length = 2 * l.length := by
  induction l with
  | nil => rfl
  | cons b l ih => simp [hexL, ih]; omega

/-- What a digit is; -1: it is none. -/
def unD (c : UInt8) : Int := if 48 ≤ c.toNat ∧ c.toNat ≤ 57 then c.toNat - 48 else if 97 ≤ c.toNat ∧ c.toNat ≤ 102 then c.toNat - 87 else -1

theorem unD_range (c : UInt8) : -1 ≤ unD c ∧ unD c ≤ 15 := by
  unfold unD
  split
  · omega
  · split <;> omega

/-- The bytes whose digits these are. -/
def unhexL : List UInt8 → Option (List UInt8)
  | [] => some []
  | [_] => none
  | a :: b :: l => if unD a < 0 ∨ unD b < 0 then none else (unhexL l).map fun x => UInt8.ofNat (16 * (unD a).toNat + (unD b).toNat) :: x

theorem unhexL_append : ∀ (l m : List UInt8), l.length % 2 = 0 → unhexL (l ++ m) = (unhexL l).bind fun x => (unhexL m).map fun y => x ++ y
  | [], m, _ => by simp [unhexL]
  | [_], _, h => by simp at h
  | a :: b :: l, m, h => by
    have ih := unhexL_append l m (by simp at h; omega)
    simp only [List.cons_append, unhexL]
    split
    · rfl
    · rw [ih]
      cases unhexL l <;> cases unhexL m <;> simp

theorem unhexL_length : ∀ (l x : List UInt8), unhexL l = some x → 2 * x.length = l.length
  | [], x, h => by simp [unhexL] at h; subst h; rfl
  | [_], x, h => by simp [unhexL] at h
  | a :: b :: l, x, h => by
    simp only [unhexL] at h
    split at h
    · cases h
    · cases hl : unhexL l with
      | none => rw [hl] at h; cases h
      | some y =>
        rw [hl] at h
        simp at h
        subst h
        have := unhexL_length l y hl
        simp
        omega

theorem unD_hexD (n : Nat) (h : n < 16) : unD (hexD n) = n := by
  have h' : ∀ n : Fin 16, unD (hexD n.1) = n.1 := by decide
  exact h' ⟨n, h⟩

theorem unhexL_hexL : ∀ l : List UInt8, unhexL (hexL l) = some l
  | [] => rfl
  | b :: l => by
    have hb := b.toNat_lt
    simp only [hexL, unhexL]
    rw [unD_hexD _ (by omega), unD_hexD _ (by omega), if_neg (by omega), unhexL_hexL l]
    simp only [Option.map_some, Option.some.injEq, List.cons.injEq, and_true]
    apply UInt8.toNat_inj.1
    simp
    omega

theorem hexD_unD (c : UInt8) (h : 0 ≤ unD c) : hexD (unD c).toNat = c := by
  have h' : ∀ n : Fin 256, 0 ≤ unD (UInt8.ofNat n.1) → hexD (unD (UInt8.ofNat n.1)).toNat = UInt8.ofNat n.1 := by decide +kernel
  have := h' ⟨c.toNat, c.toNat_lt⟩
  simp only [UInt8.ofNat_toNat] at this
  exact this h

theorem hexL_unhexL : ∀ l x : List UInt8, unhexL l = some x → hexL x = l
  | [], x, h => by simp [unhexL] at h; subst h; rfl
  | [_], x, h => by simp [unhexL] at h
  | a :: b :: l, x, h => by
    simp only [unhexL] at h
    split at h
    · cases h
    · rename_i hab
      cases hl : unhexL l with
      | none => rw [hl] at h; cases h
      | some y =>
        rw [hl] at h
        simp only [Option.map_some, Option.some.injEq] at h
        subst h
        have ih := hexL_unhexL l y hl
        have ha := unD_range a
        have hb := unD_range b
        simp only [hexL, ih, List.cons.injEq, and_true]
        have e : (UInt8.ofNat (16 * (unD a).toNat + (unD b).toNat)).toNat = 16 * (unD a).toNat + (unD b).toNat := by simp; omega
        rw [e, show (16 * (unD a).toNat + (unD b).toNat) / 16 = (unD a).toNat by omega, show (16 * (unD a).toNat + (unD b).toNat) % 16 = (unD b).toNat by omega]
        exact ⟨hexD_unD a (by omega), hexD_unD b (by omega)⟩

end Oct
end Go.Proofs.Ytkjdnmlaehjmgaa
