import PyProof.Rows.All
import PyWqaibp
import KE.SortLaws
import Wide.All
import OpenK.AllK
import Wide.FinOn
import Open.SpecLaws
import KE.OsGo
import HandS.ForSpec
import HandS.ExcInit
import HandS.ExcField
import HandS.Dict
import KE.KeyNested
import HandS.Iter
import HandS.SortKw
import KE.GoesEnumKw
import HandS.DictTup
import HandS.Lambda
import KE.SortKeyHeap
import HandS.EndTab
import KE.KNestM
import HandS.ForMost
import HandS.Flow
import HandS.NoneIn
import HandS.Conv
import HandS.TupLen
import KE.SortData
import HandS.TupAny
import HandS.Zip
import HandS.SortRule
import KE.KNest
import PySem.Challenge.RW0_sayback_s01_answers
import PySem.Challenge.RW_sayback_s01_answers
set_option linter.unusedVariables false
/-! The mathematics of the texts: bytes parted at a mark, numbers in decimal, characters, as the program goes through them, against the specification. Core Lean and the specification alone. -/
namespace Say
open SyBase SyLex SyWays

/-! ### parts between marks -/
def splitB (m : UInt8) : Bytes → List Bytes
  | [] => [[]]
  | c :: r => if c = m then [] :: splitB m r else match splitB m r with
    | p :: q => (c :: p) :: q
    | [] => [[c]]
theorem parted_eq : ∀ b : Bytes, parted b = splitB 0x20 b
  | [] => rfl
  | c :: r => by
    have ih := parted_eq r
    unfold parted at ih
    show (if c = 0x20 then [] :: _ else _) = _
    rw [splitB, ih]
    cases splitB 0x20 r <;> rfl
theorem splitB_ne (m : UInt8) : ∀ b : Bytes, splitB m b ≠ []
  | [] => by simp [splitB]
  | c :: r => by
    rw [splitB]
    split
    · simp
    · split <;> simp
theorem splitB_mark (m : UInt8) (r : Bytes) : splitB m (m :: r) = [] :: splitB m r := by rw [splitB, if_pos rfl]
theorem splitB_put {m c : UInt8} {r p : Bytes} {q : List Bytes} (h : c ≠ m) (e : splitB m r = p :: q) : splitB m (c :: r) = (c :: p) :: q := by rw [splitB, if_neg h, e]
theorem splitB_snoc_mark (m : UInt8) : ∀ x : Bytes, splitB m (x ++ [m]) = splitB m x ++ [[]]
  | [] => by simp [splitB]
  | c :: r => by
    have ih := splitB_snoc_mark m r
    by_cases h : c = m
    · subst h
      rw [List.cons_append, splitB_mark, splitB_mark, ih]
      rfl
    · cases e : splitB m r with
      | nil => exact absurd e (splitB_ne m r)
      | cons p q =>
        rw [e] at ih
        rw [List.cons_append, splitB_put h ih, splitB_put h e]
        rfl
theorem splitB_snoc {m c : UInt8} (hc : c ≠ m) : ∀ (x : Bytes) (ps : List Bytes) (q : Bytes), splitB m x = ps ++ [q] → splitB m (x ++ [c]) = ps ++ [q ++ [c]]
  | [], ps, q, e => by
    rw [splitB] at e
    have h2 : ps = [] ∧ q = [] := by
      cases ps with
      | nil => simp at e; exact ⟨rfl, e⟩
      | cons a l => simp at e
    obtain ⟨rfl, rfl⟩ := h2
    show splitB m [c] = [[c]]
    rw [splitB, if_neg hc]
    rfl
  | a :: r, ps, q, e => by
    by_cases h : a = m
    · subst h
      rw [splitB_mark] at e
      cases ps with
      | nil =>
        simp at e
        exact absurd e.2 (splitB_ne a r)
      | cons p ps' =>
        rw [List.cons_append] at e
        injection e with e1 e2
        subst e1
        rw [List.cons_append, splitB_mark, splitB_snoc hc r ps' q e2]
        rfl
    · cases f : splitB m r with
      | nil => exact absurd f (splitB_ne m r)
      | cons p t =>
        rw [splitB_put h f] at e
        cases ps with
        | nil =>
          rw [List.nil_append] at e
          injection e with e1 e2
          subst e1
          subst e2
          have g := splitB_snoc hc r [] p f
          rw [List.cons_append, splitB_put h g]
          rfl
        | cons p' ps' =>
          rw [List.cons_append] at e
          injection e with e1 e2
          subst e1
          rw [e2] at f
          have g := splitB_snoc hc r (p :: ps') q f
          rw [List.cons_append, splitB_put h g]
          rfl
/-- no part has the mark -/
theorem splitB_free (m : UInt8) : ∀ (b : Bytes) (p : Bytes), p ∈ splitB m b → ∀ c ∈ p, c ≠ m
  | [], p, h, c, hc => by
    simp [splitB] at h
    subst h
    cases hc
  | a :: r, p, h, c, hc => by
    by_cases e : a = m
    · subst e
      rw [splitB_mark] at h
      rcases List.mem_cons.mp h with rfl | h
      · cases hc
      · exact splitB_free a r p h c hc
    · cases f : splitB m r with
      | nil => exact absurd f (splitB_ne m r)
      | cons q t =>
        rw [splitB_put e f] at h
        rcases List.mem_cons.mp h with rfl | h
        · rcases List.mem_cons.mp hc with rfl | hc
          · exact e
          · exact splitB_free m r q (by rw [f]; exact List.mem_cons_self) c hc
        · exact splitB_free m r p (by rw [f]; exact List.mem_cons_of_mem _ h) c hc
/-- put together again -/
def joinB (m : UInt8) (ls : List Bytes) (last : Bytes) : Bytes := ls.foldr (fun l r => l ++ m :: r) last
theorem joinB_cons (m : UInt8) (l : Bytes) (ls : List Bytes) (z : Bytes) : joinB m (l :: ls) z = l ++ m :: joinB m ls z := rfl
theorem splitB_join (m : UInt8) : ∀ (b : Bytes) (ls : List Bytes) (z : Bytes), splitB m b = ls ++ [z] → joinB m ls z = b
  | [], ls, z, e => by
    rw [splitB] at e
    cases ls with
    | nil => simp at e; rw [e]; rfl
    | cons a l => simp at e
  | a :: r, ls, z, e => by
    by_cases h : a = m
    · subst h
      rw [splitB_mark] at e
      cases ls with
      | nil =>
        simp at e
        exact absurd e.2 (splitB_ne a r)
      | cons p ps =>
        rw [List.cons_append] at e
        injection e with e1 e2
        subst e1
        rw [joinB_cons, splitB_join a r ps z e2]
        rfl
    · cases f : splitB m r with
      | nil => exact absurd f (splitB_ne m r)
      | cons p t =>
        rw [splitB_put h f] at e
        cases ls with
        | nil =>
          rw [List.nil_append] at e
          injection e with e1 e2
          subst e1
          subst e2
          have g := splitB_join m r [] p f
          show a :: p = a :: r
          rw [← g]
          rfl
        | cons p' ps =>
          rw [List.cons_append] at e
          injection e with e1 e2
          subst e1
          rw [e2] at f
          have g := splitB_join m r (p :: ps) z f
          rw [joinB_cons] at g ⊢
          rw [← g]
          rfl
theorem splitB_size (m : UInt8) : ∀ b : Bytes, (splitB m b).length ≤ b.length + 1
  | [] => by simp [splitB]
  | c :: r => by
    have ih := splitB_size m r
    rw [splitB]
    split
    · simp only [List.length_cons]; omega
    · split
      · rename_i p q e
        rw [e] at ih
        simp only [List.length_cons] at ih ⊢; omega
      · simp
theorem splitB_last (m : UInt8) (b : Bytes) : ∃ ls z, splitB m b = ls ++ [z] := by
  have h := splitB_ne m b
  exact ⟨(splitB m b).dropLast, (splitB m b).getLast h, (List.dropLast_concat_getLast h).symm⟩
theorem splitB_short (m : UInt8) : ∀ (b p : Bytes), p ∈ splitB m b → p.length ≤ b.length
  | [], p, h => by
    simp [splitB] at h
    subst h
    exact Nat.le_refl _
  | a :: r, p, h => by
    by_cases e : a = m
    · subst e
      rw [splitB_mark] at h
      rcases List.mem_cons.mp h with rfl | h
      · exact Nat.zero_le _
      · exact Nat.le_succ_of_le (splitB_short a r p h)
    · cases f : splitB m r with
      | nil => exact absurd f (splitB_ne m r)
      | cons q t =>
        rw [splitB_put e f] at h
        rcases List.mem_cons.mp h with rfl | h
        · exact Nat.succ_le_succ (splitB_short m r q (by rw [f]; exact List.mem_cons_self))
        · exact Nat.le_succ_of_le (splitB_short m r p (by rw [f]; exact List.mem_cons_of_mem _ h))

/-! ### numbers -/
def dig (c : UInt8) : Bool := decide (0x30 ≤ c.toNat) && decide (c.toNat ≤ 0x39)
def decF (b : Bytes) : Nat := b.foldl (fun (n : Nat) (c : UInt8) => 10 * n + (c.toNat - 0x30)) 0
def TOP : Nat := 65536
/-- what the program keeps of a number -/
def cap (n : Nat) : Nat := min n TOP
theorem decF_snoc (b : Bytes) (c : UInt8) : decF (b ++ [c]) = 10 * decF b + (c.toNat - 0x30) := by
  unfold decF
  rw [List.foldl_append]
  rfl
theorem cap_step (v d : Nat) : cap (cap v * 10 + d) = cap (10 * v + d) := by
  unfold cap TOP
  omega
theorem cap_small {n m : Nat} (h : m < TOP) : (cap n ≤ m ↔ n ≤ m) := by
  unfold cap TOP at *
  omega
theorem cap_same {n : Nat} (h : n ≤ TOP) : cap n = n := by
  unfold cap TOP at *
  omega
theorem decimal_nil : decimalOf [] = none := by
  unfold decimalOf
  simp
theorem decimal_zero {b : Bytes} (h0 : b.head? = some 0x30) (h1 : 1 < b.length) : decimalOf b = none := by
  unfold decimalOf
  rw [if_neg]
  rintro ⟨_, h | h, _⟩
  · omega
  · exact h h0
theorem decimal_bad {b : Bytes} (h : b.all dig = false) : decimalOf b = none := by
  unfold decimalOf
  rw [if_neg]
  rintro ⟨_, _, h'⟩
  have e : b.all dig = true := h'
  rw [h] at e
  cases e
theorem decimal_good {b : Bytes} (h : b ≠ []) (h0 : ¬ (b.head? = some 0x30 ∧ 1 < b.length)) (h1 : b.all dig = true) : decimalOf b = some (decF b) := by
  unfold decimalOf
  rw [if_pos]
  · rfl
  · refine ⟨by cases b <;> simp at h ⊢, ?_, h1⟩
    by_cases e : b.head? = some 0x30
    · left
      have : ¬ 1 < b.length := fun q => h0 ⟨e, q⟩
      cases b with
      | nil => exact absurd rfl h
      | cons a r => simp only [List.length_cons] at this ⊢; omega
    · exact .inr e

/-! ### characters -/
def tailGo : Nat → Bytes → Option Nat
  | n, [] => some n
  | n, c :: r => if 0x80 ≤ c.toNat ∧ c.toNat < 0xC0 then tailGo (n * 64 + (c.toNat - 0x80)) r else none
structure Form where
  lead : Nat
  bound : Nat
  behind : Nat
  least : Nat
def FORMS : List Form := [⟨0, 0x80, 0, 0⟩, ⟨0xC0, 0xE0, 1, 0x80⟩, ⟨0xE0, 0xF0, 2, 0x800⟩, ⟨0xF0, 0xF8, 3, 0x10000⟩]
def isCh (n : Nat) : Bool := decide (n < 0x110000) && !(decide (0xD800 ≤ n) && decide (n ≤ 0xDFFF))
theorem isCh_eq (n : Nat) : isCh n = isChar n := by
  unfold isCh isChar
  congr 2
  congr 1
  apply decide_eq_decide.mpr
  omega
/-- a form tried at a place: the character and how many bytes -/
def Form.tryAt (f : Form) (b : Bytes) : Option (Nat × Nat) := match b with
  | [] => none
  | x :: r => if f.lead ≤ x.toNat ∧ x.toNat < f.bound then (match tailGo (x.toNat - f.lead) (r.take f.behind) with
    | some v => if 1 + f.behind ≤ b.length ∧ f.least ≤ v ∧ isCh v = true then some (v, 1 + f.behind) else none
    | none => none) else none
def formsGo : List Form → Bytes → Option (Nat × Nat)
  | [], _ => none
  | f :: fs, b => match f.tryAt b with
    | some r => some r
    | none => formsGo fs b
def charAt (b : Bytes) : Option (Nat × Nat) := formsGo FORMS b
def specTry (n : Nat) (b : Bytes) : Bool := decide (n ≤ b.length) && (isChar (valueOf n b) && utf8 (valueOf n b) == b.take n)
theorem u8 (x : UInt8) : x.toNat < 256 := x.toNat_lt
theorem ofNat_eq {n : Nat} {x : UInt8} (h : n < 256) : UInt8.ofNat n = x ↔ n = x.toNat := by
  constructor
  · rintro rfl
    simp [UInt8.toNat_ofNat', Nat.mod_eq_of_lt h]
  · intro e
    apply UInt8.toNat.inj
    simp [e]

theorem utf8_1 {v : Nat} (h : v < 0x80) : utf8 v = [UInt8.ofNat v] := by
  unfold utf8
  rw [if_pos h]
  rfl
theorem utf8_2 {v : Nat} (h : 0x80 ≤ v) (h' : v < 0x800) : utf8 v = [UInt8.ofNat (0xC0 + v / 64), UInt8.ofNat (0x80 + v % 64)] := by
  unfold utf8
  rw [if_neg (by omega), if_pos h']
  rfl
theorem utf8_3 {v : Nat} (h : 0x800 ≤ v) (h' : v < 0x10000) : utf8 v = [UInt8.ofNat (0xE0 + v / 4096), UInt8.ofNat (0x80 + v / 64 % 64), UInt8.ofNat (0x80 + v % 64)] := by
  unfold utf8
  rw [if_neg (by omega), if_neg (by omega), if_pos h']
  rfl
theorem utf8_4 {v : Nat} (h : 0x10000 ≤ v) : utf8 v = [UInt8.ofNat (0xF0 + v / 262144), UInt8.ofNat (0x80 + v / 4096 % 64), UInt8.ofNat (0x80 + v / 64 % 64), UInt8.ofNat (0x80 + v % 64)] := by
  unfold utf8
  rw [if_neg (by omega), if_neg (by omega), if_neg (by omega)]
  rfl
theorem utf8_len (v : Nat) : (utf8 v).length = if v < 0x80 then 1 else if v < 0x800 then 2 else if v < 0x10000 then 3 else 4 := by
  by_cases h1 : v < 0x80
  · rw [utf8_1 h1, if_pos h1]; rfl
  · rw [if_neg h1]
    by_cases h2 : v < 0x800
    · rw [utf8_2 (by omega) h2, if_pos h2]; rfl
    · rw [if_neg h2]
      by_cases h3 : v < 0x10000
      · rw [utf8_3 (by omega) h3, if_pos h3]; rfl
      · rw [if_neg h3, utf8_4 (by omega)]; rfl
/-- what the specification asks of n bytes is what the program asks of the form -/
theorem try1 (b : Bytes) : (Form.tryAt ⟨0, 0x80, 0, 0⟩ b) = if specTry 1 b = true then some (valueOf 1 b, 1) else none := by
  cases b with
  | nil => simp [Form.tryAt, specTry]
  | cons x r =>
    have hv : valueOf 1 (x :: r) = x.toNat := by simp [valueOf]
    have hx := u8 x
    unfold Form.tryAt
    simp only [List.take_zero, tailGo, Nat.sub_zero]
    by_cases h : x.toNat < 0x80
    · rw [if_pos ⟨Nat.zero_le _, h⟩]
      have hs : specTry 1 (x :: r) = true := by
        unfold specTry
        rw [hv, utf8_1 h]
        have : isChar x.toNat = true := by unfold isChar; simp; omega
        simp [this]
      have hc : isCh x.toNat = true := by unfold isCh; simp; omega
      rw [if_pos hs, if_pos ⟨by simp, Nat.zero_le _, hc⟩, hv]
    · rw [if_neg (by omega)]
      have hs : ¬ specTry 1 (x :: r) = true := by
        unfold specTry
        rw [hv]
        intro e
        simp only [Bool.and_eq_true, beq_iff_eq] at e
        have := congrArg List.length e.2.2
        rw [utf8_len, if_neg h] at this
        simp at this
        split at this
        · omega
        · split at this <;> omega
      rw [if_neg hs]
theorem try2 (b : Bytes) : (Form.tryAt ⟨0xC0, 0xE0, 1, 0x80⟩ b) = if specTry 2 b = true then some (valueOf 2 b, 2) else none := by
  match b with
  | [] => simp [Form.tryAt, specTry]
  | [x] =>
    have hs : ¬ specTry 2 [x] = true := by unfold specTry; simp
    rw [if_neg hs]
    unfold Form.tryAt
    simp only [List.take_nil, tailGo]
    split
    · rw [if_neg]; simp
    · rfl
  | x :: y :: r =>
    have hv : valueOf 2 (x :: y :: r) = (x.toNat - 0xC0) * 64 + (y.toNat - 0x80) := by simp [valueOf]
    have hx := u8 x
    have hy := u8 y
    unfold Form.tryAt
    simp only [List.take_succ_cons, List.take_zero, tailGo]
    by_cases hs : specTry 2 (x :: y :: r) = true
    · rw [if_pos hs]
      unfold specTry at hs
      simp only [Bool.and_eq_true, beq_iff_eq] at hs
      obtain ⟨_, hc, hu⟩ := hs
      rw [hv] at hc hu
      have hl := congrArg List.length hu
      rw [utf8_len] at hl
      simp only [List.take_succ_cons, List.take_zero, List.length_cons, List.length_nil] at hl
      have h1 : ¬ (x.toNat - 0xC0) * 64 + (y.toNat - 0x80) < 0x80 := fun q => by rw [if_pos q] at hl; omega
      rw [if_neg h1] at hl
      have h2 : (x.toNat - 0xC0) * 64 + (y.toNat - 0x80) < 0x800 := by
        by_cases q : (x.toNat - 0xC0) * 64 + (y.toNat - 0x80) < 0x800
        · exact q
        · rw [if_neg q] at hl
          split at hl <;> omega
      rw [utf8_2 (by omega) h2] at hu
      simp only [List.take_succ_cons, List.take_zero, List.cons.injEq, and_true] at hu
      obtain ⟨e1, e2⟩ := hu
      rw [ofNat_eq (by omega)] at e1 e2
      rw [if_pos ⟨by omega, by omega⟩, if_pos ⟨by omega, by omega⟩]
      dsimp only
      rw [hv, if_pos ⟨by simp, by omega, by rw [isCh_eq]; exact hc⟩]
    · rw [if_neg hs]
      split
      · rename_i h1
        by_cases h2 : 0x80 ≤ y.toNat ∧ y.toNat < 0xC0
        · rw [if_pos h2]
          dsimp only
          rw [if_neg]
          rintro ⟨_, h3, h4⟩
          refine hs ?_
          unfold specTry
          rw [hv, utf8_2 h3 (by omega), ← isCh_eq, h4]
          have a1 : UInt8.ofNat (0xC0 + ((x.toNat - 0xC0) * 64 + (y.toNat - 0x80)) / 64) = x := (ofNat_eq (by omega)).mpr (by omega)
          have a2 : UInt8.ofNat (0x80 + ((x.toNat - 0xC0) * 64 + (y.toNat - 0x80)) % 64) = y := (ofNat_eq (by omega)).mpr (by omega)
          rw [a1, a2]
          simp
        · rw [if_neg h2]
      · rfl
theorem try3 (b : Bytes) : (Form.tryAt ⟨0xE0, 0xF0, 2, 0x800⟩ b) = if specTry 3 b = true then some (valueOf 3 b, 3) else none := by
  match b with
  | [] => simp [Form.tryAt, specTry]
  | [x] =>
    have hs : ¬ specTry 3 [x] = true := by unfold specTry; simp
    rw [if_neg hs]
    unfold Form.tryAt
    simp only [List.take_nil, tailGo]
    split
    · rw [if_neg]; simp
    · rfl
  | [x, y] =>
    have hs : ¬ specTry 3 [x, y] = true := by unfold specTry; simp
    rw [if_neg hs]
    unfold Form.tryAt
    simp only [List.take_succ_cons, List.take_nil, tailGo]
    split
    · split
      · rw [if_neg]; simp
      · rfl
    · rfl
  | x :: y :: z :: r =>
    have hv : valueOf 3 (x :: y :: z :: r) = (x.toNat - 0xE0) * 4096 + (y.toNat - 0x80) * 64 + (z.toNat - 0x80) := by simp [valueOf]
    have hx := u8 x
    have hy := u8 y
    have hz := u8 z
    have hw : ((x.toNat - 0xE0) * 64 + (y.toNat - 0x80)) * 64 + (z.toNat - 0x80) = (x.toNat - 0xE0) * 4096 + (y.toNat - 0x80) * 64 + (z.toNat - 0x80) := by omega
    unfold Form.tryAt
    simp only [List.take_succ_cons, List.take_zero, tailGo]
    rw [hw]
    generalize hV : (x.toNat - 0xE0) * 4096 + (y.toNat - 0x80) * 64 + (z.toNat - 0x80) = v at hv hw ⊢
    by_cases hs : specTry 3 (x :: y :: z :: r) = true
    · rw [if_pos hs]
      unfold specTry at hs
      simp only [Bool.and_eq_true, beq_iff_eq] at hs
      obtain ⟨_, hc, hu⟩ := hs
      rw [hv] at hc hu
      have hl := congrArg List.length hu
      rw [utf8_len] at hl
      simp only [List.take_succ_cons, List.take_zero, List.length_cons, List.length_nil] at hl
      have h1 : ¬ v < 0x80 := fun q => by rw [if_pos q] at hl; omega
      rw [if_neg h1] at hl
      have h2 : ¬ v < 0x800 := fun q => by rw [if_pos q] at hl; omega
      rw [if_neg h2] at hl
      have h3 : v < 0x10000 := by
        by_cases q : v < 0x10000
        · exact q
        · rw [if_neg q] at hl; omega
      rw [utf8_3 (by omega) h3] at hu
      simp only [List.take_succ_cons, List.take_zero, List.cons.injEq, and_true] at hu
      obtain ⟨e1, e2, e3⟩ := hu
      rw [ofNat_eq (by omega)] at e1 e2 e3
      rw [if_pos ⟨by omega, by omega⟩, if_pos ⟨by omega, by omega⟩, if_pos ⟨by omega, by omega⟩]
      dsimp only
      rw [hv, if_pos ⟨by simp, by omega, by rw [isCh_eq]; exact hc⟩]
    · rw [if_neg hs]
      split
      · rename_i h1
        by_cases h2 : 0x80 ≤ y.toNat ∧ y.toNat < 0xC0
        · rw [if_pos h2]
          by_cases h5 : 0x80 ≤ z.toNat ∧ z.toNat < 0xC0
          · rw [if_pos h5]
            dsimp only
            rw [if_neg]
            rintro ⟨_, h3, h4⟩
            refine hs ?_
            unfold specTry
            rw [hv, utf8_3 h3 (by omega), ← isCh_eq, h4]
            have a1 : UInt8.ofNat (0xE0 + v / 4096) = x := (ofNat_eq (by omega)).mpr (by omega)
            have a2 : UInt8.ofNat (0x80 + v / 64 % 64) = y := (ofNat_eq (by omega)).mpr (by omega)
            have a3 : UInt8.ofNat (0x80 + v % 64) = z := (ofNat_eq (by omega)).mpr (by omega)
            rw [a1, a2, a3]
            simp
          · rw [if_neg h5]
        · rw [if_neg h2]
      · rfl
theorem try4 (b : Bytes) : (Form.tryAt ⟨0xF0, 0xF8, 3, 0x10000⟩ b) = if specTry 4 b = true then some (valueOf 4 b, 4) else none := by
  match b with
  | [] => simp [Form.tryAt, specTry]
  | [x] =>
    have hs : ¬ specTry 4 [x] = true := by unfold specTry; simp
    rw [if_neg hs]
    unfold Form.tryAt
    simp only [List.take_nil, tailGo]
    split
    · rw [if_neg]; simp
    · rfl
  | [x, y] =>
    have hs : ¬ specTry 4 [x, y] = true := by unfold specTry; simp
    rw [if_neg hs]
    unfold Form.tryAt
    simp only [List.take_succ_cons, List.take_nil, tailGo]
    split
    · split
      · rw [if_neg]; simp
      · rfl
    · rfl
  | [x, y, z] =>
    have hs : ¬ specTry 4 [x, y, z] = true := by unfold specTry; simp
    rw [if_neg hs]
    unfold Form.tryAt
    simp only [List.take_succ_cons, List.take_nil, tailGo]
    split
    · by_cases h1 : 0x80 ≤ y.toNat ∧ y.toNat < 0xC0
      · rw [if_pos h1]
        by_cases h2 : 0x80 ≤ z.toNat ∧ z.toNat < 0xC0
        · rw [if_pos h2]
          dsimp only
          rw [if_neg]; simp
        · rw [if_neg h2]
      · rw [if_neg h1]
    · rfl
  | x :: y :: z :: u :: r =>
    have hv : valueOf 4 (x :: y :: z :: u :: r) = (x.toNat - 0xF0) * 262144 + (y.toNat - 0x80) * 4096 + (z.toNat - 0x80) * 64 + (u.toNat - 0x80) := by simp [valueOf]
    have hx := u8 x
    have hy := u8 y
    have hz := u8 z
    have hu8 := u8 u
    have hw : (((x.toNat - 0xF0) * 64 + (y.toNat - 0x80)) * 64 + (z.toNat - 0x80)) * 64 + (u.toNat - 0x80) = (x.toNat - 0xF0) * 262144 + (y.toNat - 0x80) * 4096 + (z.toNat - 0x80) * 64 + (u.toNat - 0x80) := by omega
    unfold Form.tryAt
    simp only [List.take_succ_cons, List.take_zero, tailGo]
    rw [hw]
    generalize hV : (x.toNat - 0xF0) * 262144 + (y.toNat - 0x80) * 4096 + (z.toNat - 0x80) * 64 + (u.toNat - 0x80) = v at hv hw ⊢
    by_cases hs : specTry 4 (x :: y :: z :: u :: r) = true
    · rw [if_pos hs]
      unfold specTry at hs
      simp only [Bool.and_eq_true, beq_iff_eq] at hs
      obtain ⟨_, hc, hu⟩ := hs
      rw [hv] at hc hu
      have hl := congrArg List.length hu
      rw [utf8_len] at hl
      simp only [List.take_succ_cons, List.take_zero, List.length_cons, List.length_nil] at hl
      have h1 : ¬ v < 0x80 := fun q => by rw [if_pos q] at hl; omega
      rw [if_neg h1] at hl
      have h2 : ¬ v < 0x800 := fun q => by rw [if_pos q] at hl; omega
      rw [if_neg h2] at hl
      have h3 : ¬ v < 0x10000 := fun q => by rw [if_pos q] at hl; omega
      have hvb : v < 0x110000 := by
        unfold isChar at hc
        simp only [Bool.and_eq_true, decide_eq_true_eq] at hc
        exact hc.1
      rw [utf8_4 (by omega)] at hu
      simp only [List.take_succ_cons, List.take_zero, List.cons.injEq, and_true] at hu
      obtain ⟨e1, e2, e3, e4⟩ := hu
      rw [ofNat_eq (by omega)] at e1 e2 e3 e4
      rw [if_pos ⟨by omega, by omega⟩, if_pos ⟨by omega, by omega⟩, if_pos ⟨by omega, by omega⟩, if_pos ⟨by omega, by omega⟩]
      dsimp only
      rw [hv, if_pos ⟨by simp, by omega, by rw [isCh_eq]; exact hc⟩]
    · rw [if_neg hs]
      split
      · rename_i h1
        by_cases h2 : 0x80 ≤ y.toNat ∧ y.toNat < 0xC0
        · rw [if_pos h2]
          by_cases h5 : 0x80 ≤ z.toNat ∧ z.toNat < 0xC0
          · rw [if_pos h5]
            by_cases h6 : 0x80 ≤ u.toNat ∧ u.toNat < 0xC0
            · rw [if_pos h6]
              dsimp only
              rw [if_neg]
              rintro ⟨_, h3, h4⟩
              have hvb : v < 0x110000 := by
                unfold isCh at h4
                simp only [Bool.and_eq_true, decide_eq_true_eq] at h4
                exact h4.1
              refine hs ?_
              unfold specTry
              rw [hv, utf8_4 h3, ← isCh_eq, h4]
              have a1 : UInt8.ofNat (0xF0 + v / 262144) = x := (ofNat_eq (by omega)).mpr (by omega)
              have a2 : UInt8.ofNat (0x80 + v / 4096 % 64) = y := (ofNat_eq (by omega)).mpr (by omega)
              have a3 : UInt8.ofNat (0x80 + v / 64 % 64) = z := (ofNat_eq (by omega)).mpr (by omega)
              have a4 : UInt8.ofNat (0x80 + v % 64) = u := (ofNat_eq (by omega)).mpr (by omega)
              rw [a1, a2, a3, a4]
              simp
            · rw [if_neg h6]
          · rw [if_neg h5]
        · rw [if_neg h2]
      · rfl
/-- the program's forms are the specification's characters -/
theorem charAt_spec (b : Bytes) : charOf b = (charAt b).map fun r => (r.1, b.drop r.2) := by
  unfold charAt FORMS
  simp only [formsGo]
  rw [try1, try2, try3, try4]
  unfold charOf
  show Option.map _ (List.find? (fun n => specTry n b) [1, 2, 3, 4]) = _
  simp only [List.find?_cons, List.find?_nil]
  cases specTry 1 b <;> cases specTry 2 b <;> cases specTry 3 b <;> cases specTry 4 b <;> rfl
theorem tryAt_pos {f : Form} {b : Bytes} {r : Nat × Nat} (h : f.tryAt b = some r) : 0 < r.2 ∧ r.2 ≤ b.length := by
  unfold Form.tryAt at h
  split at h
  · cases h
  · split at h
    · split at h
      · split at h
        · rename_i q
          cases h
          exact ⟨by simp only; omega, q.1⟩
        · cases h
      · cases h
    · cases h
theorem formsGo_pos : ∀ {fs : List Form} {b : Bytes} {r : Nat × Nat}, formsGo fs b = some r → 0 < r.2 ∧ r.2 ≤ b.length
  | [], _, _, h => by cases h
  | f :: fs, b, r, h => by
    rw [formsGo] at h
    split at h
    · rename_i q
      cases h
      exact tryAt_pos q
    · exact formsGo_pos h
theorem charAt_pos {b : Bytes} {r : Nat × Nat} (h : charAt b = some r) : 0 < r.2 ∧ r.2 ≤ b.length := formsGo_pos h
theorem charAt_isCh {b : Bytes} {r : Nat × Nat} (h : charAt b = some r) : r.1 < 0x110000 := by
  have key : ∀ fs : List Form, formsGo fs b = some r → r.1 < 0x110000 := by
    intro fs
    induction fs with
    | nil => intro h; cases h
    | cons f fs ih =>
      intro h
      rw [formsGo] at h
      split at h
      · rename_i q
        cases h
        unfold Form.tryAt at q
        split at q
        · cases q
        · split at q
          · split at q
            · split at q
              · rename_i z
                cases q
                have := z.2.2
                unfold isCh at this
                simp only [Bool.and_eq_true, decide_eq_true_eq] at this
                exact this.1
              · cases q
            · cases q
          · cases q
      · exact ih h
  exact key _ h
theorem charsFrom_cons (n : Nat) (x : UInt8) (r : Bytes) : charsFrom (n + 1) (x :: r) = match charOf (x :: r) with
    | some (c, r') => (charsFrom n r').map fun (t : Text) => c :: t
    | none => none := by
  rw [charsFrom]
  · rfl
  · intro h
    cases h
theorem chars_fuel : ∀ (n m : Nat) (b : Bytes), b.length ≤ n → b.length ≤ m → charsFrom n b = charsFrom m b
  | n, m, [], _, _ => by cases n <;> cases m <;> rfl
  | 0, _, x :: b, h, _ => by simp at h
  | _, 0, x :: b, _, h => by simp at h
  | n + 1, m + 1, x :: b, hn, hm => by
    rw [charsFrom_cons, charsFrom_cons, charAt_spec]
    cases h : charAt (x :: b) with
    | none => rfl
    | some r =>
      have hp := charAt_pos h
      simp only [List.length_cons] at hn hm hp
      have hd : ((x :: b).drop r.2).length = b.length + 1 - r.2 := by simp
      show Option.map _ (charsFrom n ((x :: b).drop r.2)) = Option.map _ (charsFrom m ((x :: b).drop r.2))
      rw [chars_fuel n m _ (by rw [hd]; omega) (by rw [hd]; omega)]
theorem chars_nil : chars [] = some [] := rfl
theorem chars_none {b : Bytes} (hb : b ≠ []) (h : charAt b = none) : chars b = none := by
  cases b with
  | nil => exact absurd rfl hb
  | cons x r =>
    show charsFrom (r.length + 1) (x :: r) = none
    rw [charsFrom_cons, charAt_spec, h]
    rfl
theorem chars_some {b : Bytes} {c n : Nat} (h : charAt b = some (c, n)) : chars b = (chars (b.drop n)).map fun t => c :: t := by
  have hp := charAt_pos h
  cases b with
  | nil => simp at hp; omega
  | cons x r =>
    simp only [List.length_cons] at hp
    have hd : ((x :: r).drop n).length = r.length + 1 - n := by simp
    show charsFrom (r.length + 1) (x :: r) = _
    rw [charsFrom_cons, charAt_spec, h]
    show Option.map _ (charsFrom r.length ((x :: r).drop n)) = Option.map _ (charsFrom ((x :: r).drop n).length ((x :: r).drop n))
    rw [chars_fuel r.length ((x :: r).drop n).length _ (by rw [hd]; omega) (Nat.le_refl _)]
end Say
set_option linter.unusedVariables false
/-! The two texts, line by line, as the program goes through them, against the specification. -/
namespace Say
open SyBase SyLex SyWays

/-! ### rows of signs -/
def mayStand (c : Nat) : Bool := decide (0x20 < c) && c != 0x7F
theorem isSign_eq (c : Nat) : isSign c = (isChar c && mayStand c) := rfl
theorem charAt_char {b : Bytes} {r : Nat × Nat} (h : charAt b = some r) : isChar r.1 = true := by
  have key : ∀ fs : List Form, formsGo fs b = some r → isChar r.1 = true := by
    intro fs
    induction fs with
    | nil => intro h; cases h
    | cons f fs ih =>
      intro h
      rw [formsGo] at h
      split at h
      · rename_i q
        cases h
        unfold Form.tryAt at q
        split at q
        · cases q
        · split at q
          · split at q
            · split at q
              · rename_i z
                cases q
                rw [← isCh_eq]
                exact z.2.2
              · cases q
            · cases q
          · cases q
      · exact ih h
  exact key _ h
theorem chars_all : ∀ (n : Nat) (b : Bytes) (t : Text), b.length ≤ n → chars b = some t → t.all isChar = true
  | _, [], t, _, h => by
    rw [chars_nil] at h
    cases h
    rfl
  | 0, x :: r, _, hn, _ => by simp at hn
  | n + 1, x :: r, t, hn, h => by
    cases e : charAt (x :: r) with
    | none =>
      rw [chars_none (by simp) e] at h
      cases h
    | some p =>
      obtain ⟨c, k⟩ := p
      have hp := charAt_pos e
      rw [chars_some e] at h
      simp only [List.length_cons] at hn hp
      have hd : ((x :: r).drop k).length = r.length + 1 - k := by simp
      cases f : chars ((x :: r).drop k) with
      | none => rw [f] at h; cases h
      | some u =>
        rw [f] at h
        cases h
        rw [List.all_cons, chars_all n _ u (by rw [hd]; omega) f, charAt_char e]
        rfl
theorem chars_short : ∀ (n : Nat) (b : Bytes) (t : Text), b.length ≤ n → chars b = some t → t.length ≤ b.length
  | _, [], t, _, h => by
    rw [chars_nil] at h
    cases h
    exact Nat.le_refl _
  | 0, x :: r, _, hn, _ => by simp at hn
  | n + 1, x :: r, t, hn, h => by
    cases e : charAt (x :: r) with
    | none =>
      rw [chars_none (by simp) e] at h
      cases h
    | some p =>
      obtain ⟨c, k⟩ := p
      have hp := charAt_pos e
      rw [chars_some e] at h
      simp only [List.length_cons] at hn hp
      have hd : ((x :: r).drop k).length = r.length + 1 - k := by simp
      cases f : chars ((x :: r).drop k) with
      | none => rw [f] at h; cases h
      | some u =>
        rw [f] at h
        cases h
        have := chars_short n _ u (by rw [hd]; omega) f
        rw [hd] at this
        simp only [List.length_cons]
        omega
theorem all_and {α : Type} {p q : α → Bool} : ∀ {t : List α}, t.all p = true → t.all (fun x => p x && q x) = t.all q
  | [], _ => rfl
  | a :: r, h => by
    rw [List.all_cons, Bool.and_eq_true] at h
    rw [List.all_cons, List.all_cons, h.1, all_and h.2, Bool.true_and]
theorem signs_eq (b : Bytes) : signsOf b = match chars b with
    | none => none
    | some t => if t = [] then none else if t.all mayStand = true then some t else none := by
  unfold signsOf
  cases e : chars b with
  | none => rfl
  | some t =>
    have ha : t.all isSign = t.all mayStand := all_and (chars_all _ b t (Nat.le_refl _) e)
    show (if _ then some t else none) = (if t = [] then none else if t.all mayStand = true then some t else none)
    rw [ha]
    by_cases h : t = []
    · subst h
      simp
    · have h' : (!t.isEmpty) = true := by cases t <;> simp at h ⊢
      rw [if_neg h]
      by_cases g : t.all mayStand = true
      · rw [if_pos g, if_pos ⟨h', g⟩]
      · rw [if_neg g, if_neg (fun q => g q.2)]
theorem signs_ne {b : Bytes} {t : Text} (h : signsOf b = some t) : t ≠ [] ∧ t.length ≤ b.length := by
  rw [signs_eq] at h
  cases e : chars b with
  | none => rw [e] at h; cases h
  | some u =>
    rw [e] at h
    simp only at h
    split at h
    · cases h
    · split at h
      · cases h
        exact ⟨by assumption, chars_short _ b _ (Nat.le_refl _) e⟩
      · cases h

/-! ### a line as a word, as a join -/
theorem wordOf_five {l r t x y c : Bytes} (h : splitB 0x20 l = [r, t, x, y, c]) : wordOf l = match signsOf r, signsOf t, decimalOf x, decimalOf y, decimalOf c with
    | some r, some t, some x, some y, some c => some ⟨r, t, x, y, c⟩
    | _, _, _, _, _ => none := by
  unfold wordOf
  rw [parted_eq, h]
  dsimp only
  cases signsOf r <;> cases signsOf t <;> cases decimalOf x <;> cases decimalOf y <;> cases decimalOf c <;> rfl
theorem wordOf_other {l : Bytes} (h : (splitB 0x20 l).length ≠ 5) : wordOf l = none := by
  unfold wordOf
  rw [parted_eq]
  split
  · rename_i e
    rw [e] at h
    exact absurd rfl h
  · rfl
theorem joinOf_three {l x y c : Bytes} (h : splitB 0x20 l = [x, y, c]) : joinOf l = match decimalOf x, decimalOf y, decimalOf c with
    | some x, some y, some c => some ⟨x, y, c⟩
    | _, _, _ => none := by
  unfold joinOf
  rw [parted_eq, h]
  dsimp only
  cases decimalOf x <;> cases decimalOf y <;> cases decimalOf c <;> rfl
theorem joinOf_other {l : Bytes} (h : (splitB 0x20 l).length ≠ 3) : joinOf l = none := by
  unfold joinOf
  rw [parted_eq]
  split
  · rename_i e
    rw [e] at h
    exact absurd rfl h
  · rfl
theorem splitB_one {m : UInt8} : ∀ {b : Bytes}, (∀ c ∈ b, c ≠ m) → splitB m b = [b]
  | [], _ => rfl
  | c :: r, h => splitB_put (h c List.mem_cons_self) (splitB_one fun x hx => h x (List.mem_cons_of_mem _ hx))
theorem dig_ne {c : UInt8} (h : dig c = true) : c ≠ 0x20 := by
  rintro rfl
  cases h
theorem decimal_digits {b : Bytes} {n : Nat} (h : decimalOf b = some n) : b.all dig = true ∧ b ≠ [] := by
  constructor
  · cases e : b.all dig with
    | true => rfl
    | false =>
      rw [decimal_bad e] at h
      cases h
  · rintro rfl
    rw [decimal_nil] at h
    cases h
/-- a line that is one number -/
theorem one_number (l : Bytes) : decimalOf l = match splitB 0x20 l with
    | [p] => decimalOf p
    | _ => none := by
  cases e : decimalOf l with
  | some n =>
    have hd := (decimal_digits e).1
    rw [splitB_one fun c hc => dig_ne (List.all_eq_true.mp hd c hc)]
    exact e.symm
  | none =>
    split
    · rename_i p h
      have := splitB_join 0x20 l [] p (by rw [h]; rfl)
      have hp : p = l := this
      rw [hp, e]
    · rfl

/-! ### a lexicon's text -/
theorem takeW_mark {m : UInt8} : ∀ {l : Bytes} (r : Bytes), (∀ c ∈ l, c ≠ m) → (l ++ m :: r).takeWhile (fun c => c != m) = l
  | [], r, _ => by simp
  | c :: l, r, h => by
    have hc : (c != m) = true := by simpa using h c List.mem_cons_self
    rw [List.cons_append, List.takeWhile_cons, if_pos hc, takeW_mark r fun x hx => h x (List.mem_cons_of_mem _ hx)]
theorem takeW_all {m : UInt8} : ∀ {l : Bytes}, (∀ c ∈ l, c ≠ m) → l.takeWhile (fun c => c != m) = l
  | [], _ => by simp
  | c :: l, h => by
    have hc : (c != m) = true := by simpa using h c List.mem_cons_self
    rw [List.takeWhile_cons, if_pos hc, takeW_all fun x hx => h x (List.mem_cons_of_mem _ hx)]
def goWords : Nat → List Bytes → List Word → Except (Nat × Nat) (List Word)
  | _, [], ws => .ok ws
  | i, l :: ls, ws => match wordOf l with
    | none => .error (i, 1)
    | some w => if w.small = false then .error (i, 2) else if ws.any (fun q => q.same w) = true then .error (i, 3) else if WORDS ≤ i then .error (i, 4) else goWords (i + 1) ls (ws ++ [w])
def sortW (ws : List Word) : Lexicon := ws.foldl (fun L w => putWord w L) []
def textW (ls : List Bytes) (z : Bytes) : Except (Nat × Nat) Lexicon := match goWords 0 ls [] with
  | .error e => .error e
  | .ok ws => if z = [] then .ok (sortW ws) else .error (ls.length, 1)
theorem putWord_perm (w : Word) : ∀ L : Lexicon, (putWord w L).Perm (w :: L)
  | [] => .refl _
  | q :: L => by
    rw [putWord]
    split
    · exact .refl _
    · exact ((putWord_perm w L).cons q).trans (.swap w q L)
theorem sortW_snoc (ws : List Word) (w : Word) : sortW (ws ++ [w]) = putWord w (sortW ws) := by
  unfold sortW
  rw [List.foldl_append]
  rfl
theorem sortW_perm (ws : List Word) : (sortW ws).Perm ws := by
  have key : ∀ (ws : List Word) (L : Lexicon), (ws.foldl (fun L w => putWord w L) L).Perm (L ++ ws) := by
    intro ws
    induction ws with
    | nil => intro L; simp
    | cons w ws ih =>
      intro L
      refine (ih (putWord w L)).trans ?_
      refine ((putWord_perm w L).append_right ws).trans ?_
      show (w :: (L ++ ws)).Perm _
      exact List.perm_middle.symm
  have := key ws []
  rw [List.nil_append] at this
  exact this
theorem any_perm {α : Type} {p : α → Bool} {l l' : List α} (h : l.Perm l') : l.any p = l'.any p := by
  rw [Bool.eq_iff_iff, List.any_eq_true, List.any_eq_true]
  constructor
  · rintro ⟨x, hx, hp⟩; exact ⟨x, h.mem_iff.mp hx, hp⟩
  · rintro ⟨x, hx, hp⟩; exact ⟨x, h.mem_iff.mpr hx, hp⟩
theorem rwf_cons (n i : Nat) (c : UInt8) (b : Bytes) (L : Lexicon) : readWordsFrom (n + 1) i (c :: b) L =
    match (c :: b).drop ((c :: b).takeWhile fun (c : UInt8) => c != 0x0A).length, wordOf ((c :: b).takeWhile fun (c : UInt8) => c != 0x0A) with
    | _ :: r, some w => if w.small = false then .error (i, 2) else if L.any (fun (q : Word) => q.same w) = true then .error (i, 3) else if WORDS ≤ i then .error (i, 4) else readWordsFrom n (i + 1) r (putWord w L)
    | _, _ => .error (i, 1) := by
  rw [readWordsFrom]
  · rfl
  · intro h
    cases h
theorem words_lines : ∀ (ls : List Bytes) (z : Bytes) (n i : Nat) (ws : List Word), (joinB 0x0A ls z).length ≤ n → (∀ l ∈ ls, ∀ c ∈ l, c ≠ 0x0A) → (∀ c ∈ z, c ≠ 0x0A) →
    readWordsFrom n i (joinB 0x0A ls z) (sortW ws) = match goWords i ls ws with
      | .error e => .error e
      | .ok ws' => if z = [] then .ok (sortW ws') else .error (i + ls.length, 1)
  | [], [], n, i, ws, _, _, _ => by
    cases n <;> rfl
  | [], c :: z, n, i, ws, hn, _, hz => by
    cases n with
    | zero => simp [joinB] at hn
    | succ n =>
      show readWordsFrom (n + 1) i (c :: z) (sortW ws) = if c :: z = [] then _ else .error (i + 0, 1)
      rw [if_neg (by simp), rwf_cons, takeW_all hz]
      simp
  | l :: ls, z, n, i, ws, hn, hls, hz => by
    rw [joinB_cons] at hn ⊢
    simp only [List.length_append, List.length_cons] at hn
    cases n with
    | zero => omega
    | succ n =>
      have hl : ∀ c ∈ l, c ≠ 0x0A := hls l List.mem_cons_self
      obtain ⟨c, b, e⟩ : ∃ c b, l ++ 0x0A :: joinB 0x0A ls z = c :: b := by
        cases l with
        | nil => exact ⟨_, _, rfl⟩
        | cons a l => exact ⟨_, _, rfl⟩
      have et : (c :: b).takeWhile (fun (c : UInt8) => c != 0x0A) = l := by rw [← e]; exact takeW_mark _ hl
      have ed : (c :: b).drop l.length = 0x0A :: joinB 0x0A ls z := by rw [← e]; simp
      rw [e, rwf_cons, et, ed, goWords]
      cases wordOf l with
      | none => rfl
      | some w =>
        simp only
        by_cases h2 : w.small = false
        · rw [if_pos h2, if_pos h2]
        · rw [if_neg h2, if_neg h2, any_perm (sortW_perm ws)]
          by_cases h3 : ws.any (fun q => q.same w) = true
          · rw [if_pos h3, if_pos h3]
          · rw [if_neg h3, if_neg h3]
            by_cases h4 : WORDS ≤ i
            · rw [if_pos h4, if_pos h4]
            · rw [if_neg h4, if_neg h4, ← sortW_snoc, words_lines ls z n (i + 1) (ws ++ [w]) (by omega) (fun l' h => hls l' (List.mem_cons_of_mem _ h)) hz]
              have : i + 1 + ls.length = i + (l :: ls).length := by simp only [List.length_cons]; omega
              rw [this]
theorem words_text {b : Bytes} {ls : List Bytes} {z : Bytes} (h : splitB 0x0A b = ls ++ [z]) : readWords b = textW ls z := by
  have hf := splitB_free 0x0A b
  have e := splitB_join 0x0A b ls z h
  have := words_lines ls z b.length 0 [] (by rw [e]; exact Nat.le_refl _) (fun l hl => hf l (by rw [h]; exact List.mem_append_left _ hl)) (hf z (by rw [h]; simp))
  rw [e] at this
  unfold readWords textW
  have e2 : sortW [] = [] := rfl
  rw [e2] at this
  rw [this]
  simp

/-! ### the joins' text -/
def goJoins : Nat → List Bytes → List Join → Except (Nat × Nat) (List Join)
  | _, [], js => .ok js
  | i, l :: ls, js => match joinOf l with
    | none => .error (i, 1)
    | some j => if SORTS ≤ j.right ∨ SORTS ≤ j.left ∨ COST < j.cost then .error (i, 2) else if js.any (fun q => q.right == j.right && q.left == j.left) = true then .error (i, 3) else goJoins (i + 1) ls (js ++ [j])
def sortJ (js : List Join) : List Join := js.foldl (fun l j => putJoin j l) []
def textJ (ls : List Bytes) (z : Bytes) : Except (Nat × Nat) (Nat × List Join) := match ls with
  | [] => .error (0, 1)
  | l :: ls => match decimalOf l with
    | none => .error (0, 1)
    | some a => if COST < a then .error (0, 2) else match goJoins 1 ls [] with
      | .error e => .error e
      | .ok js => if z = [] then .ok (a, (sortJ js).filter fun j => j.cost != 0) else .error (1 + ls.length, 1)
theorem putJoin_perm (j : Join) : ∀ l : List Join, (putJoin j l).Perm (j :: l)
  | [] => .refl _
  | q :: l => by
    rw [putJoin]
    split
    · exact .refl _
    · exact ((putJoin_perm j l).cons q).trans (.swap j q l)
theorem sortJ_snoc (js : List Join) (j : Join) : sortJ (js ++ [j]) = putJoin j (sortJ js) := by
  unfold sortJ
  rw [List.foldl_append]
  rfl
theorem sortJ_perm (js : List Join) : (sortJ js).Perm js := by
  have key : ∀ (js L : List Join), (js.foldl (fun l j => putJoin j l) L).Perm (L ++ js) := by
    intro ws
    induction ws with
    | nil => intro L; simp
    | cons w ws ih =>
      intro L
      refine (ih (putJoin w L)).trans ?_
      refine ((putJoin_perm w L).append_right ws).trans ?_
      show (w :: (L ++ ws)).Perm _
      exact List.perm_middle.symm
  have := key js []
  rw [List.nil_append] at this
  exact this
theorem rjf_cons (n i : Nat) (c : UInt8) (b : Bytes) (L : List Join) : readJoinsFrom (n + 1) i (c :: b) L =
    match (c :: b).drop ((c :: b).takeWhile fun (c : UInt8) => c != 0x0A).length, joinOf ((c :: b).takeWhile fun (c : UInt8) => c != 0x0A) with
    | _ :: r, some j => if SORTS ≤ j.right ∨ SORTS ≤ j.left ∨ COST < j.cost then .error (i, 2) else if L.any (fun (q : Join) => q.right == j.right && q.left == j.left) = true then .error (i, 3) else readJoinsFrom n (i + 1) r (putJoin j L)
    | _, _ => .error (i, 1) := by
  rw [readJoinsFrom]
  · rfl
  · intro h
    cases h
theorem joins_lines : ∀ (ls : List Bytes) (z : Bytes) (n i : Nat) (js : List Join), (joinB 0x0A ls z).length ≤ n → (∀ l ∈ ls, ∀ c ∈ l, c ≠ 0x0A) → (∀ c ∈ z, c ≠ 0x0A) →
    readJoinsFrom n i (joinB 0x0A ls z) (sortJ js) = match goJoins i ls js with
      | .error e => .error e
      | .ok js' => if z = [] then .ok (sortJ js') else .error (i + ls.length, 1)
  | [], [], n, i, js, _, _, _ => by
    cases n <;> rfl
  | [], c :: z, n, i, js, hn, _, hz => by
    cases n with
    | zero => simp [joinB] at hn
    | succ n =>
      show readJoinsFrom (n + 1) i (c :: z) (sortJ js) = if c :: z = [] then _ else .error (i + 0, 1)
      rw [if_neg (by simp), rjf_cons, takeW_all hz]
      simp
  | l :: ls, z, n, i, js, hn, hls, hz => by
    rw [joinB_cons] at hn ⊢
    simp only [List.length_append, List.length_cons] at hn
    cases n with
    | zero => omega
    | succ n =>
      have hl : ∀ c ∈ l, c ≠ 0x0A := hls l List.mem_cons_self
      obtain ⟨c, b, e⟩ : ∃ c b, l ++ 0x0A :: joinB 0x0A ls z = c :: b := by
        cases l with
        | nil => exact ⟨_, _, rfl⟩
        | cons a l => exact ⟨_, _, rfl⟩
      have et : (c :: b).takeWhile (fun (c : UInt8) => c != 0x0A) = l := by rw [← e]; exact takeW_mark _ hl
      have ed : (c :: b).drop l.length = 0x0A :: joinB 0x0A ls z := by rw [← e]; simp
      rw [e, rjf_cons, et, ed, goJoins]
      cases joinOf l with
      | none => rfl
      | some j =>
        simp only
        by_cases h2 : SORTS ≤ j.right ∨ SORTS ≤ j.left ∨ COST < j.cost
        · rw [if_pos h2, if_pos h2]
        · rw [if_neg h2, if_neg h2, any_perm (sortJ_perm js)]
          by_cases h3 : js.any (fun q => q.right == j.right && q.left == j.left) = true
          · rw [if_pos h3, if_pos h3]
          · rw [if_neg h3, if_neg h3, ← sortJ_snoc, joins_lines ls z n (i + 1) (js ++ [j]) (by omega) (fun l' h => hls l' (List.mem_cons_of_mem _ h)) hz]
            have : i + 1 + ls.length = i + (l :: ls).length := by simp only [List.length_cons]; omega
            rw [this]
theorem joins_text {b : Bytes} {ls : List Bytes} {z : Bytes} (h : splitB 0x0A b = ls ++ [z]) : readJoins b = textJ ls z := by
  have hf := splitB_free 0x0A b
  have e := splitB_join 0x0A b ls z h
  have hz : ∀ c ∈ z, c ≠ 0x0A := hf z (by rw [h]; simp)
  have hls : ∀ l ∈ ls, ∀ c ∈ l, c ≠ 0x0A := fun l hl => hf l (by rw [h]; exact List.mem_append_left _ hl)
  unfold readJoins textJ
  rw [← e]
  cases ls with
  | nil =>
    show (match z.drop (z.takeWhile fun (c : UInt8) => c != 0x0A).length, decimalOf (z.takeWhile fun (c : UInt8) => c != 0x0A) with
      | _ :: r, some a => _
      | _, _ => _) = _
    rw [takeW_all hz]
    simp
  | cons l ls =>
    rw [joinB_cons, takeW_mark _ (hls l List.mem_cons_self)]
    have ed : (l ++ 0x0A :: joinB 0x0A ls z).drop l.length = 0x0A :: joinB 0x0A ls z := by simp
    simp only [ed]
    cases decimalOf l with
    | none => rfl
    | some a =>
      simp only
      by_cases ha : COST < a
      · rw [if_pos ha, if_pos ha]
      · rw [if_neg ha, if_neg ha]
        have := joins_lines ls z (joinB 0x0A ls z).length 1 [] (Nat.le_refl _) (fun l' hl => hls l' (List.mem_cons_of_mem _ hl)) hz
        have e2 : sortJ [] = [] := rfl
        rw [e2] at this
        rw [this]
        cases goJoins 1 ls [] with
        | error e => rfl
        | ok js =>
          simp only
          by_cases hz2 : z = []
          · rw [if_pos hz2, if_pos hz2]
            rfl
          · rw [if_neg hz2, if_neg hz2]
            rfl
end Say
set_option linter.unusedVariables false
/-! What is asked, read as typed calls; what is due, call by call. Core Lean and the specification alone. -/
namespace Say
open SyBase SyLex SyWays
abbrev BC := BackSpec.Call
def zB (t : Bytes) : List Int := t.map fun c => (c.toNat : Int)
def zN (t : Text) : List Int := t.map fun (c : Nat) => (c : Int)
/-- a call as it stands in the list -/
def enc : BC → List Int
  | .begin_ => [1]
  | .words t => 2 :: (t.length : Int) :: zB t
  | .joins t => 3 :: (t.length : Int) :: zB t
  | .many s => 4 :: (s.length : Int) :: zN s
  | .nth i s => 5 :: (i : Int) :: (s.length : Int) :: zN s
  | .reading i s => 6 :: (i : Int) :: (s.length : Int) :: zN s
/-- what may be handed in -/
def Good : BC → Prop
  | .begin_ => True
  | .words t => t.length ≤ 29000
  | .joins t => t.length ≤ 29000
  | .many s => s.length ≤ 2000 ∧ ∀ c ∈ s, c ≤ 4294967295
  | .nth i s => i ≤ 4294967295 ∧ s.length ≤ 2000 ∧ ∀ c ∈ s, c ≤ 4294967295
  | .reading i s => i ≤ 4294967295 ∧ s.length ≤ 2000 ∧ ∀ c ∈ s, c ≤ 4294967295
/-- what is told of a call's answer -/
def toldB (a : SyAns.Ans) : List Int := a.ret :: (a.nums ++ (if a.ret < 0 then [] else a.row))
def playB : BackSpec.State → List BC → List (List Int)
  | _, [] => []
  | g, c :: r => toldB (BackSpec.step g c).2 :: playB (BackSpec.step g c).1 r
theorem text_of {r : List Int} (h : r.all (PyInside.within 0 255) = true) : ∃ t : Bytes, r = zB t ∧ SyRows.text? r = some t := by
  refine ⟨r.map fun (n : Int) => UInt8.ofNat n.toNat, ?_, ?_⟩
  · unfold zB
    rw [List.map_map]
    symm
    rw [List.all_eq_true] at h
    have : ∀ n ∈ r, ((fun c : UInt8 => (c.toNat : Int)) ∘ fun (n : Int) => UInt8.ofNat n.toNat) n = n := fun n hn => by
      have := h n hn
      unfold PyInside.within at this
      simp only [Bool.and_eq_true, decide_eq_true_eq] at this
      simp only [Function.comp, UInt8.toNat_ofNat']
      omega
    rw [List.map_congr_left this, List.map_id']
  · unfold SyRows.text?
    rw [if_pos]
    exact h
theorem nats_of {r : List Int} {m : Int} (h : r.all (PyInside.within 0 m) = true) : ∃ t : Text, r = zN t ∧ SyRows.nats? r = some t ∧ ∀ c ∈ t, (c : Int) ≤ m := by
  rw [List.all_eq_true] at h
  have hw : ∀ n ∈ r, 0 ≤ n ∧ n ≤ m := fun n hn => by
    have := h n hn
    unfold PyInside.within at this
    simpa only [Bool.and_eq_true, decide_eq_true_eq] using this
  refine ⟨r.map Int.toNat, ?_, ?_, fun c hc => ?_⟩
  · unfold zN
    rw [List.map_map]
    symm
    have : ∀ n ∈ r, ((fun (c : Nat) => (c : Int)) ∘ Int.toNat) n = n := fun n hn => by
      have := hw n hn
      simp only [Function.comp]
      omega
    rw [List.map_congr_left this, List.map_id']
  · unfold SyRows.nats?
    rw [if_pos]
    rw [List.all_eq_true]
    intro n hn
    exact decide_eq_true (hw n hn).1
  · obtain ⟨n, hn, rfl⟩ := List.mem_map.mp hc
    have := hw n hn
    omega
theorem row_eq {l x s : List Int} (h : PyFlat.row l = some (x, s)) : l = (x.length : Int) :: (x ++ s) := by
  cases l with
  | nil => cases h
  | cons n r =>
    have h : (if 0 ≤ n ∧ n.toNat ≤ r.length then some (r.take n.toNat, r.drop n.toNat) else none) = some (x, s) := h
    by_cases q : 0 ≤ n ∧ n.toNat ≤ r.length
    · rw [if_pos q] at h
      cases h
      have : ((r.take n.toNat).length : Int) = n := by rw [List.length_take]; omega
      rw [this, List.take_append_drop]
    · rw [if_neg q] at h
      cases h
theorem rows1 {l : List Int} {xs : List (List Int)} {t : List Int} (h : PyFlat.rows 1 l = some (xs, t)) : ∃ x, xs = [x] ∧ l = (x.length : Int) :: (x ++ t) := by
  unfold PyFlat.rows at h
  cases e : PyFlat.row l with
  | none => rw [e] at h; cases h
  | some p =>
    obtain ⟨x, s⟩ := p
    rw [e] at h
    simp only [PyFlat.rows] at h
    cases h
    exact ⟨x, rfl, row_eq e⟩
/-- one call's decoding -/
theorem decode_of {l : List Int} {c : List (List Int)} {t : List Int} (h : PyFlat.call PyWqaibp.shape l = some (c, t)) (hb : PyInside.call PyWqaibp.bound c = true) :
    ∃ b : BC, l = enc b ++ t ∧ Good b ∧ Neutral.callOf (PyWqaibp.whole c) = some b := by
  cases l with
  | nil => cases h
  | cons p r =>
    unfold PyFlat.call at h
    simp only at h
    have ones : ∀ {k : Int}, (match PyFlat.rows 1 (r.drop 0) with
        | none => none
        | some (xs, t) => some ((k :: r.take 0) :: xs, t)) = some (c, t) → ∃ x, c = [[k], x] ∧ r = (x.length : Int) :: (x ++ t) := fun {k} h => by
      cases e : PyFlat.rows 1 (r.drop 0) with
      | none => rw [e] at h; cases h
      | some q =>
        obtain ⟨xs, t'⟩ := q
        rw [e] at h
        cases h
        obtain ⟨x, rfl, e2⟩ := rows1 e
        exact ⟨x, rfl, e2⟩
    have twos : ∀ {k : Int}, ¬ r.length < 1 → (match PyFlat.rows 1 (r.drop 1) with
        | none => none
        | some (xs, t) => some ((k :: r.take 1) :: xs, t)) = some (c, t) → ∃ i x, c = [[k, i], x] ∧ r = i :: (x.length : Int) :: (x ++ t) := fun {k} hl h => by
      cases r with
      | nil => simp at hl
      | cons i r =>
        cases e : PyFlat.rows 1 ((i :: r).drop 1) with
        | none => rw [e] at h; cases h
        | some q =>
          obtain ⟨xs, t'⟩ := q
          rw [e] at h
          cases h
          obtain ⟨x, rfl, e2⟩ := rows1 e
          exact ⟨i, x, rfl, by rw [← e2]; rfl⟩
    unfold PyWqaibp.shape at h
    by_cases h1 : p = 1
    · subst h1
      simp only [if_true] at h
      rw [if_neg (by omega)] at h
      simp only [PyFlat.rows] at h
      cases h
      exact ⟨.begin_, rfl, trivial, rfl⟩
    · rw [if_neg h1] at h
      by_cases h2 : p = 2
      · subst h2
        simp only [if_true] at h
        rw [if_neg (by omega)] at h
        obtain ⟨x, rfl, rfl⟩ := ones h
        have hb : (decide (0 ≤ x.length) && decide (x.length ≤ 29000) && x.all (PyInside.within 0 255) && true) = true := hb
        simp only [Bool.and_eq_true, decide_eq_true_eq] at hb
        obtain ⟨b, rfl, e⟩ := text_of hb.1.2
        have hl : (zB b).length = b.length := by unfold zB; rw [List.length_map]
        refine ⟨.words b, by rw [hl]; rfl, by rw [hl] at hb; exact hb.1.1.2, ?_⟩
        show (do return BackSpec.Call.words (← SyRows.text? (zB b))) = _
        rw [e]
        rfl
      · rw [if_neg h2] at h
        by_cases h3 : p = 3
        · subst h3
          simp only [if_true] at h
          rw [if_neg (by omega)] at h
          obtain ⟨x, rfl, rfl⟩ := ones h
          have hb : (decide (0 ≤ x.length) && decide (x.length ≤ 29000) && x.all (PyInside.within 0 255) && true) = true := hb
          simp only [Bool.and_eq_true, decide_eq_true_eq] at hb
          obtain ⟨b, rfl, e⟩ := text_of hb.1.2
          have hl : (zB b).length = b.length := by unfold zB; rw [List.length_map]
          refine ⟨.joins b, by rw [hl]; rfl, by rw [hl] at hb; exact hb.1.1.2, ?_⟩
          show (do return BackSpec.Call.joins (← SyRows.text? (zB b))) = _
          rw [e]
          rfl
        · rw [if_neg h3] at h
          by_cases h4 : p = 4
          · subst h4
            simp only [if_true] at h
            rw [if_neg (by omega)] at h
            obtain ⟨x, rfl, rfl⟩ := ones h
            have hb : (decide (0 ≤ x.length) && decide (x.length ≤ 2000) && x.all (PyInside.within 0 4294967295) && true) = true := hb
            simp only [Bool.and_eq_true, decide_eq_true_eq] at hb
            obtain ⟨b, rfl, e, hm⟩ := nats_of hb.1.2
            have hl : (zN b).length = b.length := by unfold zN; rw [List.length_map]
            refine ⟨.many b, by rw [hl]; rfl, ⟨by rw [hl] at hb; exact hb.1.1.2, fun c hc => by have := hm c hc; omega⟩, ?_⟩
            show (do return BackSpec.Call.many (← SyRows.nats? (zN b))) = _
            rw [e]
            rfl
          · rw [if_neg h4] at h
            by_cases h5 : p = 5
            · subst h5
              simp only [if_true] at h
              by_cases hl : r.length < 1
              · rw [if_pos hl] at h; cases h
              · rw [if_neg hl] at h
                obtain ⟨i, x, rfl, rfl⟩ := twos hl h
                have hb : ((PyInside.within 0 4294967295 i && true) && (decide (0 ≤ x.length) && decide (x.length ≤ 2000) && x.all (PyInside.within 0 4294967295) && true)) = true := hb
                unfold PyInside.within at hb
                simp only [Bool.and_eq_true, decide_eq_true_eq] at hb
                obtain ⟨b, rfl, e, hm⟩ := nats_of (m := 4294967295) hb.2.1.2
                have hl : (zN b).length = b.length := by unfold zN; rw [List.length_map]
                have hi : ((i.toNat : Nat) : Int) = i := by omega
                refine ⟨.nth i.toNat b, by rw [hl]; show _ = 5 :: ((i.toNat : Nat) : Int) :: _ :: (_ ++ _); rw [hi], ⟨by omega, by rw [hl] at hb; exact hb.2.1.1.2, fun c hc => by have := hm c hc; omega⟩, ?_⟩
                show (do return BackSpec.Call.nth (← SyRows.nat? i) (← SyRows.nats? (zN b))) = _
                rw [e]
                unfold SyRows.nat?
                rw [if_pos (by omega)]
                rfl
            · rw [if_neg h5] at h
              by_cases h6 : p = 6
              · subst h6
                simp only [if_true] at h
                by_cases hl : r.length < 1
                · rw [if_pos hl] at h; cases h
                · rw [if_neg hl] at h
                  obtain ⟨i, x, rfl, rfl⟩ := twos hl h
                  have hb : ((PyInside.within 0 4294967295 i && true) && (decide (0 ≤ x.length) && decide (x.length ≤ 2000) && x.all (PyInside.within 0 4294967295) && true)) = true := hb
                  unfold PyInside.within at hb
                  simp only [Bool.and_eq_true, decide_eq_true_eq] at hb
                  obtain ⟨b, rfl, e, hm⟩ := nats_of (m := 4294967295) hb.2.1.2
                  have hl : (zN b).length = b.length := by unfold zN; rw [List.length_map]
                  have hi : ((i.toNat : Nat) : Int) = i := by omega
                  refine ⟨.reading i.toNat b, by rw [hl]; show _ = 6 :: ((i.toNat : Nat) : Int) :: _ :: (_ ++ _); rw [hi], ⟨by omega, by rw [hl] at hb; exact hb.2.1.1.2, fun c hc => by have := hm c hc; omega⟩, ?_⟩
                  show (do return BackSpec.Call.reading (← SyRows.nat? i) (← SyRows.nats? (zN b))) = _
                  rw [e]
                  unfold SyRows.nat?
                  rw [if_pos (by omega)]
                  rfl
              · rw [if_neg h6] at h
                cases h
theorem step_eq {g : BackSpec.State} {c : List (List Int)} {b : BC} (h : Neutral.callOf c = some b) : Neutral.step g c = ((BackSpec.step g b).1, toldB (BackSpec.step g b).2) := by
  unfold Neutral.step
  rw [h]
  rfl
theorem calls_of : ∀ (f : Nat) (l : List Int) (raw : List (List (List Int))), PyFlat.calls PyWqaibp.shape f l = some raw → PyInside.calls PyWqaibp.bound raw = true →
    ∃ bs : List BC, l = bs.flatMap enc ∧ (∀ b ∈ bs, Good b) ∧ bs.length = raw.length ∧ ∀ g, PyFlat.played Neutral.step g (raw.map PyWqaibp.whole) = playB g bs
  | _, [], raw, h, hb => by
    unfold PyFlat.calls at h
    cases h
    exact ⟨[], rfl, fun b h => (by cases h), rfl, fun g => rfl⟩
  | 0, p :: r, raw, h, hb => by
    unfold PyFlat.calls at h
    cases h
  | f + 1, p :: r, raw, h, hb => by
    unfold PyFlat.calls at h
    cases e : PyFlat.call PyWqaibp.shape (p :: r) with
    | none => rw [e] at h; cases h
    | some q =>
      obtain ⟨c, t⟩ := q
      rw [e] at h
      simp only at h
      cases e2 : PyFlat.calls PyWqaibp.shape f t with
      | none => rw [e2] at h; cases h
      | some cs =>
        rw [e2] at h
        cases h
        unfold PyInside.calls at hb
        rw [List.all_cons, Bool.and_eq_true] at hb
        obtain ⟨b, eb, gb, cb⟩ := decode_of e hb.1
        obtain ⟨bs, es, gs, ls, ps⟩ := calls_of f t cs e2 hb.2
        refine ⟨b :: bs, ?_, fun x hx => ?_, by simp only [List.length_cons]; rw [ls], fun g => ?_⟩
        · rw [eb, List.flatMap_cons, ← es]
        · rcases List.mem_cons.mp hx with rfl | hx
          · exact gb
          · exact gs x hx
        · rw [List.map_cons, PyFlat.played, playB, step_eq cb, ps]
/-- all that is asked -/
theorem asked_calls {l : List Int} (h : PyWqaibp.answers_asked l = true) : ∃ bs : List BC, l = bs.flatMap enc ∧ (∀ b ∈ bs, Good b) ∧ bs.length ≤ 100 ∧ PyWqaibp.answers l = PyFlat.told (playB BackSpec.start bs) ∧ (PyFlat.told (playB BackSpec.start bs)).length ≤ 10000000 := by
  unfold PyWqaibp.answers_asked at h
  cases e : PyFlat.calls PyWqaibp.shape l.length l with
  | none => rw [e] at h; cases h
  | some raw =>
    rw [e] at h
    simp only [Bool.and_eq_true] at h
    obtain ⟨⟨⟨h1, h2⟩, h3⟩, h4⟩ := h
    obtain ⟨bs, e1, e2, e3, e4⟩ := calls_of _ _ _ e h2
    have ea : PyWqaibp.answers l = PyFlat.told (playB BackSpec.start bs) := by
      unfold PyWqaibp.answers PyWqaibp.calls
      rw [e]
      simp only
      rw [show Neutral.start = BackSpec.start from rfl, e4]
    refine ⟨bs, e1, e2, ?_, ea, ?_⟩
    · unfold Neutral.asked at h3
      rw [Bool.and_eq_true, decide_eq_true_eq, List.length_map] at h3
      rw [e3]
      exact h3.2
    · rw [ea] at h4
      unfold PyFlat.short at h4
      exact of_decide_eq_true h4
end Say
set_option linter.unusedVariables false
/-! Ways back: how many they are, how they are set in order; over the specification alone (and the library's laws of sorting). -/
namespace Say
open SyBase SyLex SyWays SyBack
abbrev Step := Piece × Text × Nat
/-! ### how far a first piece reaches -/
theorem at_bounds {g : Weights} {t : Text} {x : Step} (h : x ∈ backsAt g t) : 1 ≤ x.2.2 ∧ x.2.2 ≤ t.length := by
  unfold backsAt at h
  obtain ⟨j, hj, hx⟩ := List.mem_flatMap.mp h
  obtain ⟨k, hk, rfl⟩ := List.mem_map.mp hj
  have hk := List.mem_range.mp (List.mem_reverse.mp hk)
  have e : x.2.2 = k + 1 := by
    rcases List.mem_append.mp hx with hx | hx
    · obtain ⟨i, _, hi⟩ := List.mem_filterMap.mp hx
      cases ew : g.words[i]? with
      | none => rw [ew] at hi; cases hi
      | some w =>
        rw [ew] at hi
        simp only [Option.bind_some] at hi
        split at hi
        · cases hi; rfl
        · cases hi
    · split at hx
      · have : x = (⟨1, none⟩, t.take 1, 1) := by simpa using hx
        rw [this]
        rename_i z
        exact z.symm
      · cases hx
  rw [e]
  have : k < min SIGNS t.length := hk
  omega
theorem backsFrom_nil (g : Weights) (f : Nat) : backsFrom g f [] = [⟨[], []⟩] := by
  cases f <;> rfl
theorem backsFrom_cons (g : Weights) (f : Nat) (a : Nat) (r : Text) : backsFrom g (f + 1) (a :: r) = (backsAt g (a :: r)).flatMap fun (x : Step) => (backsFrom g f ((a :: r).drop x.2.2)).map fun (b : Back) => ⟨x.2.1 ++ b.reading, x.1 :: b.way⟩ := by
  rw [backsFrom]
  intro z
  cases z
theorem flatMap_congr' {α β : Type} {f h : α → List β} : ∀ {l : List α}, (∀ a ∈ l, f a = h a) → l.flatMap f = l.flatMap h
  | [], _ => rfl
  | a :: l, e => by
    rw [List.flatMap_cons, List.flatMap_cons, e a List.mem_cons_self, flatMap_congr' fun b hb => e b (List.mem_cons_of_mem _ hb)]
theorem backs_fuel (g : Weights) : ∀ (f k : Nat) (t : Text), t.length ≤ f → t.length ≤ k → backsFrom g f t = backsFrom g k t
  | f, k, [], _, _ => by rw [backsFrom_nil, backsFrom_nil]
  | 0, _, a :: r, h, _ => by simp at h
  | _ + 1, 0, a :: r, _, h => by simp at h
  | f + 1, k + 1, a :: r, h1, h2 => by
    rw [backsFrom_cons, backsFrom_cons]
    refine flatMap_congr' fun x hx => ?_
    have hb := at_bounds hx
    simp only [List.length_cons] at h1 h2 hb
    rw [backs_fuel g f k ((a :: r).drop x.2.2) (by rw [List.length_drop, List.length_cons]; omega) (by rw [List.length_drop, List.length_cons]; omega)]
/-- all ways back, in the order of their pieces -/
def ways (g : Weights) (t : Text) : List Back := backsFrom g t.length t
theorem ways_nil (g : Weights) : ways g [] = [⟨[], []⟩] := rfl
theorem ways_cons (g : Weights) (a : Nat) (r : Text) : ways g (a :: r) = (backsAt g (a :: r)).flatMap fun (x : Step) => (ways g ((a :: r).drop x.2.2)).map fun (b : Back) => ⟨x.2.1 ++ b.reading, x.1 :: b.way⟩ := by
  unfold ways
  rw [show (a :: r).length = r.length + 1 from rfl, backsFrom_cons]
  refine flatMap_congr' fun x hx => ?_
  have hb := at_bounds hx
  simp only [List.length_cons] at hb
  rw [backs_fuel g r.length _ ((a :: r).drop x.2.2) (by rw [List.length_drop, List.length_cons]; omega) (Nat.le_refl _)]
/-! ### how many -/
theorem length_flatMap' {α β : Type} (f : α → List β) : ∀ (l : List α), (l.flatMap f).length = (l.map fun a => (f a).length).foldl (fun (a b : Nat) => a + b) 0 := by
  have key : ∀ (l : List α) (n : Nat), (l.map fun a => (f a).length).foldl (fun (a b : Nat) => a + b) n = n + (l.flatMap f).length := by
    intro l
    induction l with
    | nil => intro n; rfl
    | cons a l ih =>
      intro n
      rw [List.map_cons, List.foldl_cons, ih, List.flatMap_cons, List.length_append]
      omega
  intro l
  rw [key l 0, Nat.zero_add]
theorem counts_get (g : Weights) : ∀ (t : Text) (k : Nat), k ≤ t.length → (backCounts g t).getD k 0 = (ways g (t.drop k)).length
  | [], k, h => by
    have : k = 0 := by simpa using h
    subst this
    rfl
  | a :: r, 0, _ => by
    show ((backsAt g (a :: r)).map fun (y : Step) => (backCounts g r).getD (y.2.2 - 1) 0).foldl (fun (a b : Nat) => a + b) 0 = _
    rw [List.drop_zero, ways_cons, length_flatMap']
    congr 1
    refine List.map_congr_left fun x hx => ?_
    have hb := at_bounds hx
    simp only [List.length_cons] at hb
    rw [counts_get g r (x.2.2 - 1) (by omega), List.length_map]
    congr 2
    obtain ⟨m, hm⟩ : ∃ m, x.2.2 = m + 1 := ⟨x.2.2 - 1, by omega⟩
    rw [hm]
    rfl
  | a :: r, k + 1, h => by
    show (backCounts g r).getD k 0 = _
    rw [counts_get g r k (by simpa using h)]
    rfl
theorem many_eq (g : Weights) (t : Text) : manyBacks g t = (ways g t).length := by
  have h := counts_get g t 0 (Nat.zero_le _)
  rw [List.drop_zero] at h
  rw [← h]
  unfold manyBacks
  cases backCounts g t <;> rfl
/-! ### in order -/
open PySem.W
def leP (x y : Nat × Back) : Bool := decide (x.1 ≤ y.1)
theorem leP_total : TotalLe leP where
  trans := fun a b c h1 h2 => by
    unfold leP at *
    simp only [decide_eq_true_eq] at *
    omega
  total := fun a b => by
    unfold leP
    simp only [decide_eq_true_eq]
    omega
theorem put_mem {x y : Nat × Back} : ∀ {l : List (Nat × Back)}, y ∈ putBack x l → y = x ∨ y ∈ l
  | [], h => by
    rw [putBack] at h
    exact .inl (by simpa using h)
  | z :: l, h => by
    rw [putBack] at h
    split at h
    · rcases List.mem_cons.mp h with h | h
      · exact .inl h
      · exact .inr h
    · rcases List.mem_cons.mp h with h | h
      · exact .inr (by rw [h]; exact List.mem_cons_self)
      · rcases put_mem h with h | h
        · exact .inl h
        · exact .inr (List.mem_cons_of_mem _ h)
theorem put_sorted (x : Nat × Back) : ∀ {l : List (Nat × Back)}, l.Pairwise (fun a b => leP a b = true) → (putBack x l).Pairwise (fun a b => leP a b = true)
  | [], _ => by
    rw [putBack]
    exact List.pairwise_singleton _ _
  | y :: l, h => by
    rw [putBack]
    have h2 := List.pairwise_cons.mp h
    split
    · rename_i e
      refine List.pairwise_cons.mpr ⟨fun b hb => ?_, h⟩
      rcases List.mem_cons.mp hb with rfl | hb
      · exact decide_eq_true e
      · exact leP_total.trans _ _ _ (decide_eq_true e) (h2.1 b hb)
    · rename_i e
      refine List.pairwise_cons.mpr ⟨fun b hb => ?_, put_sorted x h2.2⟩
      rcases put_mem hb with rfl | hb
      · unfold leP
        rw [decide_eq_true_eq]
        omega
      · exact h2.1 b hb
theorem rank_iff (c x : Nat × Back) : sameRank leP c x = decide (x.1 = c.1) := by
  unfold sameRank leP
  rw [Bool.eq_iff_iff]
  simp only [Bool.and_eq_true, decide_eq_true_eq]
  omega
theorem put_filter (x c : Nat × Back) : ∀ (l : List (Nat × Back)), (putBack x l).filter (sameRank leP c) = (x :: l).filter (sameRank leP c)
  | [] => rfl
  | y :: l => by
    rw [putBack]
    split
    · rfl
    · rename_i e
      rw [List.filter_cons, put_filter x c l, List.filter_cons, List.filter_cons (x := x), List.filter_cons (x := y)]
      rw [rank_iff, rank_iff]
      by_cases h1 : y.1 = c.1
      · have h2 : ¬ x.1 = c.1 := by omega
        simp [h1, h2]
      · simp [h1]
theorem fold_sort (l : List (Nat × Back)) : l.foldr putBack [] = l.mergeSort leP := by
  refine sort_unique leP_total ?_ fun c => ?_
  · induction l with
    | nil => exact .nil
    | cons x l ih => exact put_sorted x ih
  · induction l with
    | nil => rfl
    | cons x l ih =>
      rw [List.foldr_cons, put_filter, List.filter_cons, List.filter_cons, ih]
def leB (g : Weights) (a b : Back) : Bool := decide (wayCost g a.way ≤ wayCost g b.way)
/-- all ways back: set in order by their costs, of one cost as they stood -/
theorem backs_sort (g : Weights) (t : Text) : backs g t = (ways g t).mergeSort (leB g) := by
  unfold backs
  rw [fold_sort]
  have h1 := sort_maps (r := leB g) (s := leP) (l := ways g t) (fun b => (wayCost g b.way, b)) fun a _ b _ => rfl
  show (((ways g t).map fun b => (wayCost g b.way, b)).mergeSort leP).map (fun x => x.2) = _
  rw [← h1, List.map_map]
  exact List.map_id _
end Say
set_option linter.unusedVariables false
/-! The pieces and the ways as the program walks them, against the specification's. -/
namespace Say
open SyBase SyLex SyWays SyBack
open PySem.W
/-- a piece as the program keeps it: a word with its number; a sound by itself as a word of its own, its number -1 -/
structure Pc where
  num : Int
  wd : SyLex.Word
def itself (alone c : Nat) : Pc := ⟨-1, ⟨[c], [c], 0, 0, alone⟩⟩
def edgeP : Pc := ⟨-1, ⟨[], [], 0, 0, 0⟩⟩
def Pc.piece (p : Pc) : Piece := ⟨p.wd.reading.length, if p.num < 0 then none else some p.num.toNat⟩
def Pc.len (p : Pc) : Nat := p.wd.text.length
def pcOf (g : Weights) (x : Step) : Pc := match x.1.word with
  | some i => ⟨(i : Int), (g.words[i]?).getD ⟨[], [], 0, 0, 0⟩⟩
  | none => ⟨-1, ⟨x.2.1, x.2.1, 0, 0, g.alone⟩⟩
def pcsAt (g : Weights) (t : Text) : List Pc := (backsAt g t).map (pcOf g)
/-- what a step of the specification is -/
theorem at_is {g : Weights} {t : Text} {x : Step} (h : x ∈ backsAt g t) :
    (∃ i w, g.words[i]? = some w ∧ x = (⟨w.reading.length, some i⟩, w.reading, w.text.length) ∧ w.text = t.take w.text.length) ∨ (x = (⟨1, none⟩, t.take 1, 1) ∧ t ≠ []) := by
  have hb := at_bounds h
  unfold backsAt at h
  obtain ⟨j, hj, hx⟩ := List.mem_flatMap.mp h
  obtain ⟨k, hk, rfl⟩ := List.mem_map.mp hj
  have hk := List.mem_range.mp (List.mem_reverse.mp hk)
  have hk : k < min SIGNS t.length := hk
  rcases List.mem_append.mp hx with hx | hx
  · obtain ⟨i, _, hi⟩ := List.mem_filterMap.mp hx
    cases ew : g.words[i]? with
    | none => rw [ew] at hi; cases hi
    | some w =>
      rw [ew] at hi
      simp only [Option.bind_some] at hi
      split at hi
      · rename_i e
        have el : w.text.length = k + 1 := by rw [e, List.length_take]; omega
        cases hi
        exact .inl ⟨i, w, ew, by rw [el], by rw [el]; exact e⟩
      · cases hi
  · split at hx
    · have e : x = (⟨1, none⟩, t.take 1, 1) := by simpa using hx
      refine .inr ⟨e, fun z => ?_⟩
      rw [z] at hb
      simp only [List.length_nil] at hb
      omega
    · cases hx
/-- what the specification weighs of a piece is what the program keeps of it -/
structure OfG (g : Weights) (p : Pc) : Prop where
  left : g.left p.piece = p.wd.left
  right : g.right p.piece = p.wd.right
  cost : g.cost p.piece = p.wd.cost
theorem pcOf_is {g : Weights} {t : Text} {x : Step} (h : x ∈ backsAt g t) : (pcOf g x).len = x.2.2 ∧ (pcOf g x).wd.reading = x.2.1 ∧ (pcOf g x).piece = x.1 ∧ OfG g (pcOf g x) := by
  rcases at_is h with ⟨i, w, ew, rfl, et⟩ | ⟨rfl, hn⟩
  · have e : pcOf g (⟨w.reading.length, some i⟩, w.reading, w.text.length) = ⟨(i : Int), w⟩ := by
      unfold pcOf
      simp only
      rw [ew]
      rfl
    rw [e]
    have ep : Pc.piece ⟨(i : Int), w⟩ = ⟨w.reading.length, some i⟩ := by
      unfold Pc.piece
      simp only
      rw [if_neg (by omega)]
      rfl
    refine ⟨rfl, rfl, ep, ?_⟩
    refine ⟨?_, ?_, ?_⟩ <;> rw [ep]
    · show ((g.words[i]?).map fun (w : SyLex.Word) => w.left).getD 0 = _
      rw [ew]; rfl
    · show ((g.words[i]?).map fun (w : SyLex.Word) => w.right).getD 0 = _
      rw [ew]; rfl
    · show ((g.words[i]?).map fun (w : SyLex.Word) => w.cost).getD g.alone = _
      rw [ew]; rfl
  · have el : (t.take 1).length = 1 := by
      cases t with
      | nil => exact absurd rfl hn
      | cons a r => rfl
    have ep : (pcOf g (⟨1, none⟩, t.take 1, 1)).piece = ⟨1, none⟩ := by
      show (⟨(t.take 1).length, if (-1 : Int) < 0 then none else some (-1 : Int).toNat⟩ : Piece) = _
      rw [el, if_pos (by decide)]
    refine ⟨el, rfl, ep, ?_⟩
    refine ⟨?_, ?_, ?_⟩ <;> rw [ep] <;> rfl
/-! ### ways as rows of pieces -/
def pcWays (g : Weights) : Nat → Text → List (List Pc)
  | _, [] => [[]]
  | 0, _ :: _ => []
  | f + 1, t => (pcsAt g t).flatMap fun (p : Pc) => (pcWays g f (t.drop p.len)).map fun (w : List Pc) => p :: w
def W (g : Weights) (t : Text) : List (List Pc) := pcWays g t.length t
theorem pcs_len {g : Weights} {t : Text} {p : Pc} (h : p ∈ pcsAt g t) : 1 ≤ p.len ∧ p.len ≤ t.length := by
  obtain ⟨x, hx, rfl⟩ := List.mem_map.mp h
  rw [(pcOf_is hx).1]
  exact at_bounds hx
theorem pcs_of {g : Weights} {t : Text} {p : Pc} (h : p ∈ pcsAt g t) : OfG g p := by
  obtain ⟨x, hx, rfl⟩ := List.mem_map.mp h
  exact (pcOf_is hx).2.2.2
theorem pcWays_nil (g : Weights) (f : Nat) : pcWays g f [] = [[]] := by cases f <;> rfl
theorem pcWays_cons (g : Weights) (f : Nat) (a : Nat) (r : Text) : pcWays g (f + 1) (a :: r) = (pcsAt g (a :: r)).flatMap fun (p : Pc) => (pcWays g f ((a :: r).drop p.len)).map fun (w : List Pc) => p :: w := by
  rw [pcWays]
  intro z
  cases z
theorem pcWays_fuel (g : Weights) : ∀ (f k : Nat) (t : Text), t.length ≤ f → t.length ≤ k → pcWays g f t = pcWays g k t
  | f, k, [], _, _ => by rw [pcWays_nil, pcWays_nil]
  | 0, _, a :: r, h, _ => by simp at h
  | _ + 1, 0, a :: r, _, h => by simp at h
  | f + 1, k + 1, a :: r, h1, h2 => by
    rw [pcWays_cons, pcWays_cons]
    refine flatMap_congr' fun p hp => ?_
    have hb := pcs_len hp
    simp only [List.length_cons] at h1 h2 hb
    rw [pcWays_fuel g f k ((a :: r).drop p.len) (by rw [List.length_drop, List.length_cons]; omega) (by rw [List.length_drop, List.length_cons]; omega)]
theorem W_nil (g : Weights) : W g [] = [[]] := rfl
theorem W_cons (g : Weights) {t : Text} (h : t ≠ []) : W g t = (pcsAt g t).flatMap fun (p : Pc) => (W g (t.drop p.len)).map fun (w : List Pc) => p :: w := by
  cases t with
  | nil => exact absurd rfl h
  | cons a r =>
    unfold W
    rw [show (a :: r).length = r.length + 1 from rfl, pcWays_cons]
    refine flatMap_congr' fun p hp => ?_
    have hb := pcs_len hp
    simp only [List.length_cons] at hb
    rw [pcWays_fuel g r.length _ ((a :: r).drop p.len) (by rw [List.length_drop, List.length_cons]; omega) (Nat.le_refl _)]
def toBack (ps : List Pc) : Back := ⟨ps.flatMap fun p => p.wd.reading, ps.map Pc.piece⟩
theorem flatMap_map' {α β γ : Type} (f : α → β) (h : β → List γ) : ∀ l : List α, (l.map f).flatMap h = l.flatMap fun a => h (f a)
  | [] => rfl
  | a :: l => by rw [List.map_cons, List.flatMap_cons, List.flatMap_cons, flatMap_map' f h l]
theorem map_flatMap' {α β γ : Type} (f : β → γ) (h : α → List β) : ∀ l : List α, (l.flatMap h).map f = l.flatMap fun a => (h a).map f
  | [] => rfl
  | a :: l => by rw [List.flatMap_cons, List.flatMap_cons, List.map_append, map_flatMap' f h l]
theorem ways_W (g : Weights) : ∀ (n : Nat) (t : Text), t.length ≤ n → ways g t = (W g t).map toBack
  | n, [], _ => rfl
  | 0, a :: r, h => by simp at h
  | n + 1, a :: r, h => by
    rw [ways_cons, W_cons g (by simp), map_flatMap']
    unfold pcsAt
    rw [flatMap_map']
    refine flatMap_congr' fun x hx => ?_
    have hb := at_bounds hx
    obtain ⟨e1, e2, e3, _⟩ := pcOf_is hx
    simp only [List.length_cons] at hb h
    rw [e1, ways_W g n ((a :: r).drop x.2.2) (by rw [List.length_drop, List.length_cons]; omega), List.map_map, List.map_map]
    refine List.map_congr_left fun w _ => ?_
    show _ = toBack (pcOf g x :: w)
    unfold toBack
    rw [List.flatMap_cons, List.map_cons, e2, e3]
    rfl
theorem ways_eq (g : Weights) (t : Text) : ways g t = (W g t).map toBack := ways_W g _ t (Nat.le_refl _)
theorem W_of {g : Weights} : ∀ (n : Nat) (t : Text), t.length ≤ n → ∀ ps ∈ W g t, ∀ p ∈ ps, OfG g p
  | n, [], _, ps, h => by
    rw [W_nil] at h
    have : ps = [] := by simpa using h
    rw [this]
    intro p hp
    cases hp
  | 0, a :: r, h, _, _ => by simp at h
  | n + 1, a :: r, hl, ps, h => by
    rw [W_cons g (by simp)] at h
    obtain ⟨q, hq, hw0⟩ := List.mem_flatMap.mp h
    obtain ⟨w, hw, rfl⟩ := List.mem_map.mp hw0
    have hb := pcs_len hq
    simp only [List.length_cons] at hl hb
    intro p hp
    rcases List.mem_cons.mp hp with rfl | hp
    · exact pcs_of hq
    · exact W_of n _ (by rw [List.length_drop, List.length_cons]; omega) w hw p hp
/-! ### what they cost -/
def costP (g : Weights) : Nat → List Pc → Nat
  | r, [] => g.join r 0
  | r, p :: ps => g.join r p.wd.left + (p.wd.cost + costP g p.wd.right ps)
theorem costP_eq {g : Weights} : ∀ {ps : List Pc} {r : Nat}, (∀ p ∈ ps, OfG g p) → costFrom g r (ps.map Pc.piece) = costP g r ps
  | [], r, _ => rfl
  | p :: ps, r, h => by
    have hp := h p List.mem_cons_self
    rw [List.map_cons, costFrom, costP, hp.left, hp.cost, hp.right, costP_eq fun q hq => h q (List.mem_cons_of_mem _ hq)]
theorem cost_back {g : Weights} {t : Text} {ps : List Pc} (h : ps ∈ W g t) : wayCost g (toBack ps).way = costP g 0 ps := costP_eq (W_of _ t (Nat.le_refl _) ps h)
/-- what the ways from a piece on cost, by their ranks; t is what stands behind it -/
def rowC (g : Weights) (p : Pc) (t : Text) : List Nat := (W g t).map fun ps => p.wd.cost + costP g p.wd.right ps
def nextOf (g : Weights) (p : Pc) (fs : List Pc) (rs : List (List Nat)) : List Nat := (fs.zip rs).flatMap fun x => x.2.map fun c => (p.wd.cost + g.join p.wd.right x.1.wd.left) + c
/-- the pieces that may stand behind, with the edge at the end -/
def pcsEnd (g : Weights) (t : Text) : List Pc := if t = [] then [edgeP] else pcsAt g t
def rowsC (g : Weights) (t : Text) : List (List Nat) := if t = [] then [[0]] else (pcsAt g t).map fun p => rowC g p (t.drop p.len)
theorem next_row (g : Weights) (p : Pc) (t : Text) : nextOf g p (pcsEnd g t) (rowsC g t) = rowC g p t := by
  have er : rowC g p t = (W g t).map fun ps => p.wd.cost + costP g p.wd.right ps := rfl
  unfold nextOf pcsEnd rowsC
  rw [er]
  by_cases h : t = []
  · subst h
    rw [if_pos rfl, if_pos rfl, W_nil]
    rfl
  · rw [if_neg h, if_neg h, W_cons g h, map_flatMap', show ∀ l : List Pc, l.zip (l.map fun q => rowC g q (t.drop q.len)) = l.map fun q => (q, rowC g q (t.drop q.len)) from fun l => by
      induction l with
      | nil => rfl
      | cons a l ih => rw [List.map_cons, List.zip_cons_cons, List.map_cons, ih], flatMap_map']
    refine flatMap_congr' fun q hq => ?_
    show (rowC g q (t.drop q.len)).map _ = _
    unfold rowC
    rw [List.map_map, List.map_map]
    refine List.map_congr_left fun w _ => ?_
    show p.wd.cost + g.join p.wd.right q.wd.left + (q.wd.cost + costP g q.wd.right w) = p.wd.cost + (g.join p.wd.right q.wd.left + (q.wd.cost + costP g q.wd.right w))
    omega
theorem row_edge (g : Weights) (t : Text) : rowC g edgeP t = (W g t).map fun ps => costP g 0 ps := by
  unfold rowC
  refine List.map_congr_left fun w _ => ?_
  show 0 + costP g 0 w = _
  omega
theorem row_length (g : Weights) (p : Pc) (t : Text) : (rowC g p t).length = (W g t).length := by
  unfold rowC
  rw [List.length_map]
/-! ### the one of a number -/
def leC (g : Weights) (a b : List Pc) : Bool := decide (costP g 0 a ≤ costP g 0 b)
theorem backs_W (g : Weights) (t : Text) : backs g t = ((W g t).mergeSort (leC g)).map toBack := by
  rw [backs_sort, ways_eq]
  refine (sort_maps (r := leC g) (s := leB g) (l := W g t) toBack fun a ha b hb => ?_).symm
  unfold leC leB
  rw [cost_back ha, cost_back hb]
/-- by cost, of one cost by rank -/
def ltCR (x y : Int × Int) : Bool := decide (x.1 < y.1) || (decide (x.1 = y.1) && decide (x.2 < y.2))
theorem zle_iff (g : Weights) (a b : List Pc × Nat) : List.zipIdxLE (leC g) a b = true ↔ (costP g 0 a.1 < costP g 0 b.1 ∨ (costP g 0 a.1 = costP g 0 b.1 ∧ a.2 ≤ b.2)) := by
  unfold List.zipIdxLE leC
  by_cases h1 : costP g 0 a.1 ≤ costP g 0 b.1
  · rw [if_pos (decide_eq_true h1)]
    by_cases h2 : costP g 0 b.1 ≤ costP g 0 a.1
    · rw [if_pos (decide_eq_true h2), decide_eq_true_eq]
      omega
    · rw [if_neg (by simpa using h2)]
      simp only [true_iff]
      omega
  · rw [if_neg (by simpa using h1)]
    simp only [Bool.false_eq_true, false_iff]
    omega
theorem sorted_ranks (g : Weights) (t : Text) {ord : List (Int × Int)} (hp : ord.Perm ((W g t).zipIdx.map fun x => ((costP g 0 x.1 : Int), (x.2 : Int)))) (hs : ord.Pairwise fun x y => ltCR y x = false) :
    ord = ((W g t).zipIdx.mergeSort (List.zipIdxLE (leC g))).map fun x => ((costP g 0 x.1 : Int), (x.2 : Int)) := by
  have tot : TotalLe (List.zipIdxLE (leC g)) := {
    trans := fun a b c h1 h2 => by
      rw [zle_iff] at *
      omega
    total := fun a b => by
      rw [zle_iff, zle_iff]
      omega }
  have p1 := List.mergeSort_perm (W g t).zipIdx (List.zipIdxLE (leC g))
  refine List.Perm.eq_of_pairwise (le := fun x y => ltCR y x = false) (fun a b h1 h2 x y => ?_) hs ?_ (hp.trans (p1.map _).symm)
  · unfold ltCR at x y
    simp only [Bool.or_eq_false_iff, decide_eq_false_iff_not, Bool.and_eq_false_iff] at x y
    refine Prod.ext ?_ ?_ <;> omega
  · refine List.pairwise_map.mpr ((sort_pairwise tot _).imp fun {a b} h => ?_)
    rw [zle_iff] at h
    unfold ltCR
    simp only [Bool.or_eq_false_iff, decide_eq_false_iff_not, Bool.and_eq_false_iff]
    omega
theorem backs_ord (g : Weights) (t : Text) {ord : List (Int × Int)} (hp : ord.Perm ((W g t).zipIdx.map fun x => ((costP g 0 x.1 : Int), (x.2 : Int)))) (hs : ord.Pairwise fun x y => ltCR y x = false) {i : Nat} (hi : i < (W g t).length) :
    ∃ (r : Nat) (ps : List Pc), (W g t)[r]? = some ps ∧ ord[i]? = some ((costP g 0 ps : Int), (r : Int)) ∧ (backs g t)[i]? = some (toBack ps) := by
  have e := sorted_ranks g t hp hs
  have z : ((W g t).zipIdx.mergeSort (List.zipIdxLE (leC g))).map (·.1) = (W g t).mergeSort (leC g) := List.mergeSort_zipIdx
  have hl : i < ((W g t).zipIdx.mergeSort (List.zipIdxLE (leC g))).length := by
    rw [List.length_mergeSort, List.length_zipIdx]
    exact hi
  obtain ⟨x, hx⟩ : ∃ x, ((W g t).zipIdx.mergeSort (List.zipIdxLE (leC g)))[i]? = some x := ⟨_, List.getElem?_eq_getElem hl⟩
  have hm : x ∈ (W g t).zipIdx := (List.mergeSort_perm _ _).mem_iff.mp (List.mem_of_getElem? hx)
  refine ⟨x.2, x.1, ?_, ?_, ?_⟩
  · have := List.mem_zipIdx_iff_getElem?.mp hm
    exact this
  · rw [e, List.getElem?_map, hx]
    rfl
  · rw [backs_W, List.getElem?_map, ← z, List.getElem?_map, hx]
    rfl
theorem many_W (g : Weights) (t : Text) : manyBacks g t = (W g t).length := by
  rw [many_eq, ways_eq, List.length_map]
theorem backs_length (g : Weights) (t : Text) : (backs g t).length = (W g t).length := by
  rw [backs_W, List.length_map, List.length_mergeSort]
/-! ### how many, place by place -/
theorem foldl_sum (l : List Nat) : l.foldl (fun (a b : Nat) => a + b) 0 = l.sum := by
  rw [List.sum_eq_foldl]
theorem counts_step (g : Weights) {t : Text} (h : t ≠ []) : backCounts g t = ((pcsAt g t).map fun p => (backCounts g (t.drop 1)).getD (p.len - 1) 0).sum :: backCounts g (t.drop 1) := by
  cases t with
  | nil => exact absurd rfl h
  | cons a r =>
    show (((backsAt g (a :: r)).map fun (y : Step) => (backCounts g r).getD (y.2.2 - 1) 0).foldl (fun (a b : Nat) => a + b) 0 :: backCounts g r) = _
    rw [foldl_sum]
    unfold pcsAt
    rw [List.map_map]
    congr 2
    refine List.map_congr_left fun x hx => ?_
    show _ = (backCounts g r).getD ((pcOf g x).len - 1) 0
    rw [(pcOf_is hx).1]
theorem counts_length (g : Weights) : ∀ t : Text, (backCounts g t).length = t.length + 1
  | [] => rfl
  | a :: r => by
    rw [counts_step g (t := a :: r) (by simp), List.length_cons]
    show (backCounts g r).length + 1 = _
    rw [counts_length g r]
    rfl
/-! ### a piece by its rank -/
theorem rank_here {F : Pc → List (List Pc)} {p : Pc} {L : List Pc} {r : Nat} {ps : List Pc} (h : (((p :: L).flatMap fun p => (F p).map fun w => p :: w))[r]? = some ps) (lt : r < (F p).length) : ∃ ws, ps = p :: ws ∧ (F p)[r]? = some ws := by
  rw [List.flatMap_cons, List.getElem?_append_left (by rw [List.length_map]; exact lt), List.getElem?_map] at h
  cases e : (F p)[r]? with
  | none => rw [e] at h; cases h
  | some ws =>
    rw [e] at h
    cases h
    exact ⟨ws, rfl, rfl⟩
theorem rank_there {F : Pc → List (List Pc)} {p : Pc} {L : List Pc} {r : Nat} {ps : List Pc} (h : (((p :: L).flatMap fun p => (F p).map fun w => p :: w))[r]? = some ps) (ge : ¬ r < (F p).length) : ((L.flatMap fun p => (F p).map fun w => p :: w))[r - (F p).length]? = some ps := by
  rw [List.flatMap_cons, List.getElem?_append_right (by rw [List.length_map]; omega), List.length_map] at h
  exact h
/-! ### the pieces at a place, as the program finds them -/
def leL (a b : Pc) : Bool := decide (b.len ≤ a.len)
theorem leL_total : TotalLe leL where
  trans := fun a b c h1 h2 => by
    unfold leL at *
    simp only [decide_eq_true_eq] at *
    omega
  total := fun a b => by
    unfold leL
    simp only [decide_eq_true_eq]
    omega
theorem rankL_iff (c x : Pc) : sameRank leL c x = decide (x.len = c.len) := by
  unfold sameRank leL
  rw [Bool.eq_iff_iff]
  simp only [Bool.and_eq_true, decide_eq_true_eq]
  omega
/-- the words that stand there, then the sound by itself -/
def found (g : Weights) (t : Text) : List Pc := (g.words.zipIdx.filter fun x => t.take x.1.text.length == x.1.text).map fun x => ⟨(x.2 : Int), x.1⟩
/-- the pieces of one length -/
def block (g : Weights) (t : Text) (j : Nat) : List Pc := ((g.words.zipIdx.filter fun x => x.1.text == t.take j).map fun x => (⟨(x.2 : Int), x.1⟩ : Pc)) ++ if j = 1 then [itself g.alone (t.headD 0)] else []
theorem filterMap_congr' {α β : Type} {f h : α → Option β} : ∀ {l : List α}, (∀ a ∈ l, f a = h a) → l.filterMap f = l.filterMap h
  | [], _ => rfl
  | a :: l, e => by
    rw [List.filterMap_cons, List.filterMap_cons, e a List.mem_cons_self, filterMap_congr' fun b hb => e b (List.mem_cons_of_mem _ hb)]
theorem filterMap_range {α β : Type} (f : α → Nat → Option β) : ∀ (l : List α) (k : Nat), (List.range' k l.length).filterMap (fun i => (l[i - k]?).bind fun w => f w i) = (l.zipIdx k).filterMap fun x => f x.1 x.2
  | [], k => rfl
  | a :: l, k => by
    rw [List.length_cons, List.range'_succ, List.zipIdx_cons, List.filterMap_cons, List.filterMap_cons]
    have ih := filterMap_range f l (k + 1)
    have e : (List.range' (k + 1) l.length).filterMap (fun i => ((a :: l)[i - k]?).bind fun w => f w i) = (List.range' (k + 1) l.length).filterMap (fun i => (l[i - (k + 1)]?).bind fun w => f w i) := by
      refine filterMap_congr' fun i hi => ?_
      have := List.mem_range'_1.mp hi
      rw [show i - k = (i - (k + 1)) + 1 by omega, List.getElem?_cons_succ]
    have e2 : (List.range' (k + 1) l.length 1) = List.range' (k + 1) l.length := rfl
    rw [Nat.sub_self, List.getElem?_cons_zero, Option.bind_some]
    rw [e, ih]
theorem filter_map_filterMap {α β : Type} (c : α → Bool) (f : α → β) : ∀ l : List α, (l.filter c).map f = l.filterMap fun x => if c x = true then some (f x) else none
  | [] => rfl
  | a :: l => by
    rw [List.filter_cons, List.filterMap_cons]
    by_cases h : c a = true
    · rw [if_pos h, if_pos h, List.map_cons, filter_map_filterMap c f l]
    · rw [if_neg h, if_neg h, filter_map_filterMap c f l]
theorem map_filterMap' {α β γ : Type} (f : α → Option β) (h : β → γ) : ∀ l : List α, (l.filterMap f).map h = l.filterMap fun a => (f a).map h
  | [] => rfl
  | a :: l => by
    rw [List.filterMap_cons, List.filterMap_cons]
    cases f a with
    | none => exact map_filterMap' f h l
    | some b => rw [List.map_cons, map_filterMap' f h l]; rfl
theorem pcs_blocks (g : Weights) {t : Text} (hn : t ≠ []) (hl : t.length ≤ 32) : pcsAt g t = ((List.range t.length).reverse.map fun j => j + 1).flatMap (block g t) := by
  unfold pcsAt backsAt
  rw [show min SIGNS t.length = t.length from Nat.min_eq_right hl, map_flatMap']
  refine flatMap_congr' fun j hj => ?_
  rw [List.map_append]
  unfold block
  congr 1
  · rw [map_filterMap', filter_map_filterMap]
    have e := filterMap_range (fun (w : SyLex.Word) (i : Nat) => if (w.text == t.take j) = true then some (⟨(i : Int), w⟩ : Pc) else none) g.words 0
    rw [← e, List.range_eq_range']
    refine filterMap_congr' fun i hi => ?_
    rw [Nat.sub_zero]
    cases ew : g.words[i]? with
    | none => rfl
    | some w =>
      simp only [Option.bind_some]
      by_cases h : w.text = t.take j
      · rw [if_pos h, if_pos (by simpa using h)]
        show some (pcOf g _) = _
        unfold pcOf
        simp only
        rw [ew]
        rfl
      · rw [if_neg h, if_neg (by simpa using h)]
        rfl
  · by_cases h : j = 1
    · rw [if_pos h, if_pos h]
      show [pcOf g (⟨1, none⟩, t.take 1, 1)] = _
      unfold pcOf itself
      cases t with
      | nil => exact absurd rfl hn
      | cons a r => rfl
    · rw [if_neg h, if_neg h]
      rfl
theorem block_len {g : Weights} {t : Text} {j : Nat} (hj : j ≤ t.length) {p : Pc} (h : p ∈ block g t j) : p.len = j := by
  unfold block at h
  rcases List.mem_append.mp h with h | h
  · obtain ⟨x, hx, rfl⟩ := List.mem_map.mp h
    have e : x.1.text = t.take j := by simpa using (List.mem_filter.mp hx).2
    show x.1.text.length = j
    rw [e, List.length_take]
    omega
  · split at h
    · rename_i e
      have : p = itself g.alone (t.headD 0) := by simpa using h
      rw [this, e]
      rfl
    · cases h
theorem filter_blocks {g : Weights} {t : Text} {L : Nat} : ∀ (js : List Nat), js.Nodup → (∀ j ∈ js, j ≤ t.length) → (js.flatMap (block g t)).filter (fun p => decide (p.len = L)) = if L ∈ js then block g t L else []
  | [], _, _ => rfl
  | j :: js, nd, hj => by
    have nd2 := List.nodup_cons.mp nd
    rw [List.flatMap_cons, List.filter_append, filter_blocks js nd2.2 fun k hk => hj k (List.mem_cons_of_mem _ hk)]
    by_cases e : j = L
    · subst e
      rw [if_neg nd2.1, if_pos List.mem_cons_self, List.append_nil, List.filter_eq_self]
      intro p hp
      exact decide_eq_true (block_len (hj j List.mem_cons_self) hp)
    · have e1 : (block g t j).filter (fun p => decide (p.len = L)) = [] := by
        rw [List.filter_eq_nil_iff]
        intro p hp z
        have := block_len (hj j List.mem_cons_self) hp
        have := of_decide_eq_true z
        omega
      rw [e1, List.nil_append]
      by_cases m : L ∈ js
      · rw [if_pos m, if_pos (List.mem_cons_of_mem _ m)]
      · rw [if_neg m, if_neg fun z => (List.mem_cons.mp z).elim (fun q => e q.symm) m]
theorem sorted_blocks {g : Weights} {t : Text} : ∀ (js : List Nat), js.Pairwise (fun a b => b < a) → (∀ j ∈ js, j ≤ t.length) → (js.flatMap (block g t)).Pairwise (fun a b => leL a b = true)
  | [], _, _ => .nil
  | j :: js, h, hj => by
    have h2 := List.pairwise_cons.mp h
    rw [List.flatMap_cons]
    refine List.pairwise_append.mpr ⟨?_, sorted_blocks js h2.2 fun k hk => hj k (List.mem_cons_of_mem _ hk), fun a ha b hb => ?_⟩
    · refine List.Pairwise.imp_of_mem (R := fun _ _ => True) (fun {a b} ha hb _ => ?_) (by simp [List.pairwise_iff_getElem])
      unfold leL
      rw [block_len (hj j List.mem_cons_self) ha, block_len (hj j List.mem_cons_self) hb]
      simp
    · obtain ⟨k, hk, hb⟩ := List.mem_flatMap.mp hb
      unfold leL
      rw [block_len (hj j List.mem_cons_self) ha, block_len (hj k (List.mem_cons_of_mem _ hk)) hb]
      have := h2.1 k hk
      exact decide_eq_true (by omega)
theorem pcs_sorted (g : Weights) {t : Text} (hn : t ≠ []) (hl : t.length ≤ 32) (hw : ∀ w ∈ g.words, w.text ≠ []) : (found g t ++ [itself g.alone (t.headD 0)]).mergeSort leL = pcsAt g t := by
  symm
  have hjs : ∀ j ∈ (List.range t.length).reverse.map (fun j => j + 1), j ≤ t.length := fun j hj => by
    obtain ⟨k, hk, rfl⟩ := List.mem_map.mp hj
    have := List.mem_range.mp (List.mem_reverse.mp hk)
    omega
  have hdesc : ((List.range t.length).reverse.map (fun j => j + 1)).Pairwise (fun a b => b < a) := by
    rw [List.pairwise_map, List.pairwise_reverse]
    exact List.pairwise_lt_range.imp fun {a b} h => by omega
  rw [pcs_blocks g hn hl]
  refine sort_unique leL_total (sorted_blocks _ hdesc hjs) fun c => ?_
  have er : sameRank leL c = fun p => decide (p.len = c.len) := funext fun p => rankL_iff c p
  rw [er, filter_blocks _ (hdesc.imp fun {a b} h => by omega) hjs]
  generalize c.len = L
  have mem : L ∈ (List.range t.length).reverse.map (fun j => j + 1) ↔ 1 ≤ L ∧ L ≤ t.length := by
    constructor
    · intro h
      obtain ⟨k, hk, rfl⟩ := List.mem_map.mp h
      have := List.mem_range.mp (List.mem_reverse.mp hk)
      omega
    · intro h
      exact List.mem_map.mpr ⟨L - 1, List.mem_reverse.mpr (List.mem_range.mpr (by omega)), by omega⟩
  have own : (found g t).filter (fun p => decide (p.len = L)) = (g.words.zipIdx.filter fun x => (t.take x.1.text.length == x.1.text) && decide (x.1.text.length = L)).map fun x => (⟨(x.2 : Int), x.1⟩ : Pc) := by
    unfold found
    rw [List.filter_map, List.filter_filter]
    congr 1
    refine List.filter_congr fun x _ => ?_
    rw [Bool.and_comm]
    rfl
  have wds : ∀ x ∈ g.words.zipIdx, x.1 ∈ g.words := fun x hx => List.mem_of_getElem? (List.mem_zipIdx_iff_getElem?.mp hx)
  rw [List.filter_append, own]
  by_cases h : 1 ≤ L ∧ L ≤ t.length
  · rw [if_pos (mem.mpr h)]
    unfold block
    congr 1
    · congr 1
      refine List.filter_congr fun x hx => ?_
      rw [Bool.eq_iff_iff]
      simp only [Bool.and_eq_true, beq_iff_eq, decide_eq_true_eq]
      constructor
      · intro e
        have : x.1.text.length = L := by rw [e, List.length_take]; omega
        exact ⟨by rw [this, e], this⟩
      · rintro ⟨e1, e2⟩
        rw [← e2, e1]
    · rw [List.filter_cons, List.filter_nil]
      have : (itself g.alone (t.headD 0)).len = 1 := rfl
      rw [this]
      by_cases e : L = 1
      · rw [if_pos e, if_pos (by simp [e])]
      · rw [if_neg e, if_neg (by simp; omega)]
  · rw [if_neg fun z => h (mem.mp z)]
    have e1 : (g.words.zipIdx.filter fun x => (t.take x.1.text.length == x.1.text) && decide (x.1.text.length = L)) = [] := by
      rw [List.filter_eq_nil_iff]
      intro x hx z
      simp only [Bool.and_eq_true, beq_iff_eq, decide_eq_true_eq] at z
      have h1 := hw _ (wds x hx)
      have h2 : x.1.text.length ≠ 0 := fun q => h1 (List.eq_nil_of_length_eq_zero q)
      have h3 : (t.take x.1.text.length).length = x.1.text.length := congrArg List.length z.1
      rw [List.length_take] at h3
      omega
    have h1 : 1 ≤ t.length := by
      cases t with
      | nil => exact absurd rfl hn
      | cons a r => simp
    rw [e1, List.map_nil, List.nil_append, List.filter_cons, List.filter_nil]
    have : (itself g.alone (t.headD 0)).len = 1 := rfl
    rw [this, if_neg (by simp; omega)]
end Say
set_option linter.unusedVariables false
/-! Sizes: how many ways from a place on. -/
namespace Say
open SyBase SyLex SyWays SyBack
theorem itself_in {g : Weights} {t : Text} (h : t ≠ []) : ∃ p ∈ pcsAt g t, p.len = 1 := by
  unfold pcsAt
  refine ⟨pcOf g (⟨1, none⟩, t.take 1, 1), List.mem_map.mpr ⟨_, ?_, rfl⟩, ?_⟩
  · unfold backsAt
    refine List.mem_flatMap.mpr ⟨1, List.mem_map.mpr ⟨0, List.mem_reverse.mpr (List.mem_range.mpr ?_), rfl⟩, List.mem_append_right _ (by simp)⟩
    cases t with
    | nil => exact absurd rfl h
    | cons a r =>
      show 0 < min 32 (r.length + 1)
      omega
  · cases t with
    | nil => exact absurd rfl h
    | cons a r => rfl
theorem flat_ge {α β : Type} (f : α → List β) : ∀ {l : List α} {a : α}, a ∈ l → (f a).length ≤ (l.flatMap f).length
  | b :: l, a, h => by
    rw [List.flatMap_cons, List.length_append]
    rcases List.mem_cons.mp h with rfl | h
    · omega
    · have := flat_ge f h
      omega
theorem W_drop1 (g : Weights) (t : Text) : (W g (t.drop 1)).length ≤ (W g t).length := by
  by_cases h : t = []
  · rw [h]
    exact Nat.le_refl _
  · obtain ⟨p, hp, hl⟩ := itself_in (g := g) h
    rw [W_cons g h]
    have := flat_ge (fun (p : Pc) => (W g (t.drop p.len)).map fun (w : List Pc) => p :: w) hp
    simp only [List.length_map] at this
    rw [hl] at this
    exact this
theorem W_drop (g : Weights) : ∀ (k : Nat) (t : Text), (W g (t.drop k)).length ≤ (W g t).length
  | 0, t => Nat.le_refl _
  | k + 1, t => by
    have h := W_drop g k (t.drop 1)
    rw [List.drop_drop, Nat.add_comm 1 k] at h
    exact Nat.le_trans h (W_drop1 g t)
theorem W_some (g : Weights) : ∀ (n : Nat) (t : Text), t.length ≤ n → 1 ≤ (W g t).length
  | n, [], _ => Nat.le_refl _
  | 0, a :: r, h => by simp at h
  | n + 1, a :: r, h => by
    have h1 := W_some g n r (by simpa using h)
    exact Nat.le_trans h1 (W_drop1 g (a :: r))
theorem flat_each {α β : Type} (f : α → List β) : ∀ {l : List α}, (∀ a ∈ l, 1 ≤ (f a).length) → l.length ≤ (l.flatMap f).length
  | [], _ => Nat.le_refl _
  | b :: l, h => by
    rw [List.flatMap_cons, List.length_append, List.length_cons]
    have h1 := h b List.mem_cons_self
    have h2 := flat_each f (l := l) fun a ha => h a (List.mem_cons_of_mem _ ha)
    omega
/-- no more pieces at a place than ways from it on -/
theorem pcs_ways (g : Weights) {t : Text} (h : t ≠ []) : (pcsAt g t).length ≤ (W g t).length := by
  rw [W_cons g h]
  refine flat_each _ fun p _ => ?_
  rw [List.length_map]
  exact W_some g _ _ (Nat.le_refl _)
/-- no more pieces at a place than words and one -/
theorem pcs_small (g : Weights) {t : Text} (hn : t ≠ []) (hl : t.length ≤ 32) (hw : ∀ x ∈ g.words, x.text ≠ []) : (pcsAt g t).length ≤ g.words.length + 1 := by
  rw [← pcs_sorted g hn hl hw, List.length_mergeSort, List.length_append]
  unfold found
  rw [List.length_map]
  have := List.length_filter_le (fun (x : SyLex.Word × Nat) => t.take x.1.text.length == x.1.text) g.words.zipIdx
  rw [List.length_zipIdx] at this
  simp only [List.length_cons, List.length_nil]
  omega
theorem ends_rows (g : Weights) (t : Text) : (pcsEnd g t).length = (rowsC g t).length := by
  unfold pcsEnd rowsC
  by_cases h : t = []
  · rw [if_pos h, if_pos h]
    rfl
  · rw [if_neg h, if_neg h, List.length_map]
end Say
set_option linter.unusedVariables false
/-! What a lexicon read keeps to; what each call's answer is. -/
namespace Say
open SyBase SyLex SyWays SyBack BackSpec SyAns
def GoodW (x : SyLex.Word) : Prop := x.text ≠ [] ∧ x.reading.length ≤ 32
theorem text_ne {l : Bytes} {wd : SyLex.Word} (h : wordOf l = some wd) : wd.text ≠ [] := by
  unfold wordOf at h
  split at h
  · rename_i r t x y c _
    cases er : signsOf r with
    | none => rw [er] at h; cases h
    | some r' =>
      cases et : signsOf t with
      | none => rw [er, et] at h; cases h
      | some t' =>
        have hn : t' ≠ [] := by
          unfold signsOf at et
          cases ec : chars t with
          | none => rw [ec] at et; cases et
          | some u =>
            rw [ec] at et
            simp only [Option.bind_some] at et
            split at et
            · rename_i z
              cases et
              intro q
              rw [q] at z
              simp at z
            · cases et
        rw [er, et] at h
        cases ex : decimalOf x with
        | none => rw [ex] at h; cases h
        | some x' =>
          cases ey : decimalOf y with
          | none => rw [ex, ey] at h; cases h
          | some y' =>
            cases ec : decimalOf c with
            | none => rw [ex, ey, ec] at h; cases h
            | some c' =>
              rw [ex, ey, ec] at h
              cases h
              exact hn
  · cases h
theorem from_good : ∀ (n i : Nat) (b : Bytes) (L0 L : Lexicon), readWordsFrom n i b L0 = .ok L → (∀ x ∈ L0, GoodW x) → L.length ≤ L0.length + n ∧ ∀ x ∈ L, GoodW x
  | _, _, [], L0, L, h, g => by
    unfold readWordsFrom at h
    cases h
    exact ⟨Nat.le_add_right _ _, g⟩
  | 0, _, _ :: _, _, _, h, _ => by
    unfold readWordsFrom at h
    cases h
  | n + 1, i, a :: b, L0, L, h, g => by
    unfold readWordsFrom at h
    simp only at h
    split at h
    · rename_i c r wd e1 e2
      split at h
      · cases h
      · rename_i hs
        split at h
        · cases h
        · split at h
          · cases h
          · have hsm : wd.small = true := by simpa using hs
            have gw : GoodW wd := by
              refine ⟨text_ne e2, ?_⟩
              unfold SyLex.Word.small SIGNS at hsm
              simp only [Bool.and_eq_true, decide_eq_true_eq] at hsm
              exact hsm.1
            have hp := putWord_perm wd L0
            have := from_good n (i + 1) r (putWord wd L0) L h fun x hx => by
              rcases List.mem_cons.mp (hp.mem_iff.mp hx) with rfl | hx
              · exact gw
              · exact g x hx
            rw [hp.length_eq, List.length_cons] at this
            exact ⟨by omega, this.2⟩
    · cases h
theorem good_words {b : Bytes} {L : Lexicon} (h : readWords b = .ok L) : L.length ≤ b.length ∧ ∀ x ∈ L, GoodW x := by
  have := from_good _ _ _ _ _ h fun x hx => by cases hx
  simpa using this
/-! ### the pieces of a way -/
theorem pcs_good {g : Weights} (hw : ∀ x ∈ g.words, GoodW x) {t : Text} {p : Pc} (h : p ∈ pcsAt g t) : p.wd.reading.length ≤ 32 ∧ (p.num = -1 ∨ 0 ≤ p.num) := by
  obtain ⟨x, hx, rfl⟩ := List.mem_map.mp h
  rcases at_is hx with ⟨i, wd, ew, rfl, et⟩ | ⟨rfl, hn⟩
  · have e : pcOf g (⟨wd.reading.length, some i⟩, wd.reading, wd.text.length) = ⟨(i : Int), wd⟩ := by
      unfold pcOf
      simp only
      rw [ew]
      rfl
    rw [e]
    exact ⟨(hw wd (List.mem_of_getElem? ew)).2, .inr (Int.natCast_nonneg i)⟩
  · refine ⟨?_, .inl rfl⟩
    show (t.take 1).length ≤ 32
    rw [List.length_take]
    omega
theorem W_good {g : Weights} (hw : ∀ x ∈ g.words, GoodW x) : ∀ (n : Nat) (t : Text), t.length ≤ n → ∀ ps ∈ W g t, ps.length ≤ t.length ∧ ∀ p ∈ ps, p.wd.reading.length ≤ 32 ∧ (p.num = -1 ∨ 0 ≤ p.num)
  | n, [], _, ps, h => by
    rw [W_nil] at h
    have : ps = [] := by simpa using h
    rw [this]
    exact ⟨Nat.le_refl _, fun p hp => by cases hp⟩
  | 0, a :: r, h, _, _ => by simp at h
  | n + 1, a :: r, hl, ps, h => by
    rw [W_cons g (by simp)] at h
    obtain ⟨q, hq, hw0⟩ := List.mem_flatMap.mp h
    obtain ⟨v, hv, rfl⟩ := List.mem_map.mp hw0
    have hb := pcs_len hq
    have := W_good hw n ((a :: r).drop q.len) (by rw [List.length_drop]; simp only [List.length_cons] at hl hb ⊢; omega) v hv
    rw [List.length_drop] at this
    refine ⟨by rw [List.length_cons]; omega, fun p hp => ?_⟩
    rcases List.mem_cons.mp hp with rfl | hp
    · exact pcs_good hw hq
    · exact this.2 p hp
/-! ### what is told -/
def wayL (ps : List Pc) : List Int := ps.flatMap fun p => [((p.wd.reading.length : Nat) : Int), p.num]
theorem flat_way : ∀ {ps : List Pc}, (∀ p ∈ ps, p.num = -1 ∨ 0 ≤ p.num) → flat (toBack ps).way = wayL ps
  | [], _ => rfl
  | p :: ps, h => by
    have ih := flat_way (ps := ps) fun q hq => h q (List.mem_cons_of_mem _ hq)
    have hp := h p List.mem_cons_self
    unfold flat toBack wayL at *
    simp only at ih
    rw [List.map_cons, List.flatMap_cons, List.flatMap_cons, ih]
    congr 1
    unfold Pc.piece
    simp only
    by_cases n : p.num < 0
    · rw [if_pos n]
      have : p.num = -1 := by omega
      rw [this]
    · rw [if_neg n]
      have : ((p.num.toNat : Nat) : Int) = p.num := by omega
      simp only
      rw [this]
theorem told_says (z : Int) : toldB (says z) = [z] := by
  unfold toldB says
  simp
theorem told_fault (i k : Nat) : toldB (tells (-2) (SyAns.ints [i, k])) = [-2, (i : Int), (k : Int)] := rfl
theorem told_way {ps : List Pc} {g : Weights} {t : Text} (h : ps ∈ W g t) (hn : ∀ p ∈ ps, p.num = -1 ∨ 0 ≤ p.num) : toldB ⟨((toBack ps).way.length : Int), [(wayCost g (toBack ps).way : Int)], flat (toBack ps).way, []⟩ = ((ps.length : Nat) : Int) :: ((costP g 0 ps : Nat) : Int) :: wayL ps := by
  rw [flat_way hn, cost_back h]
  have e : (toBack ps).way.length = ps.length := by
    unfold toBack
    rw [List.length_map]
  rw [e]
  unfold toldB
  simp only
  rw [if_neg (by omega)]
  rfl
theorem told_reading (ps : List Pc) : toldB (shows (toBack ps).reading []) = (((toBack ps).reading.length : Nat) : Int) :: zN (toBack ps).reading := by
  unfold toldB shows
  simp only
  rw [if_neg (by omega)]
  rfl
end Say
set_option Elab.async false
set_option linter.all false
set_option maxRecDepth 100000
set_option maxHeartbeats 4000000
/-! An error class of one's own straight under Exception, whose own initializer says Exception.__init__(self) and then stores its values. The same for Exception as HandS.ExcInit tells for ValueError. -/
namespace SayE
open PySem PySem.W PySem.Calls PyProof.Rows PySem.HandSPX Builtin Builtin.ObjectAttr
abbrev exT : List Value := [.type "Exception", .type "BaseException", .type "object"]
theorem mro_passes (self : Value) (C : Addr) : refuseLoop self "__setattr__" (.ref C :: exT) = pure () := by
  rw [refuseLoop_ref]
  exact F.store_Exception.passes self
section
variable {prog : Program} {w : World} {A : Around} {R : Result → Shared → Prop} {hp : Heap} {gs : Array GenState} {dr : Drawn} {tk : Nat} {os : OsState}
  {K : W.Frag} {name : Str} {nt : Tok} {v : Value} {x C : Addr} {fv : Array Value} {cd : ClassData}
/-- x.name = v, the error's first value: its dict is made -/
theorem first_value (X : K.In hp) (hx : hp.get? x = some { cls := .ref C, data := .fields fv }) (hcd : W.clsIn K C = some cd) (hm : cd.mro = .ref C :: exT) (hh : cd.hasDict = true)
    (ha : W.findIn K (.ref C) name = some none)
    (hq : ∀ h' t' dx, (∀ b o, b ≠ x → hp.get? b = some o → h'.get? b = some o) → hp.objs.size ≤ dx → dx ≠ x → h'.get? x = some { cls := .ref C, dict := some dx, data := .fields fv } →
      h'.Ns1 dx (fun y => if y = name then some v else none) → R (.ok (.ret .none)) ⟨h', gs, dr, t', os⟩) :
    codeAny (model prog w) A (.call (.builtin "object.__setattr__") ⟨[.ref x, .str name nt, v], []⟩) R ⟨hp, gs, dr, tk, os⟩ := by
  have inst : W.InstAt hp x { cls := .ref C, data := .fields fv } C none := ⟨hx, rfl, rfl, trivial⟩
  have far : x ≠ hp.objs.size := Nat.ne_of_lt (Heap.lt_size hx)
  have isObj : W.Looks (model prog w) hp (isInstance (.ref x) (.type "object")) true :=
    inst.type.andThen (W.looks_mroIn X (by
      unfold W.mroIn
      rw [hcd, Option.bind_some, hm]
      rfl))
  refine codeAny_call_builtin F.store_object.slot.plain F.store_object.entry (@W.check_slot (model prog w) _ _ ⟨hp, gs, dr, tk, os⟩ "object.__setattr__" "object" "__setattr__"
    (.ref x) [.str name nt, v] [] _ F.store_object.kind F.store_object.split isObj (F.store_object.args (.ref x) (.str name nt) v) ?_)
  have lookMro : W.Looks (model prog w) hp (mroOf (.ref C)) cd.mro := (W.looks_clsIn X hcd).andThen .now
  have lookTaker : W.Looks (model prog w) hp (storeTaker? none) none := .now
  have lookCls : W.Looks (model prog w) hp (classData C) cd := W.looks_clsIn X hcd
  rw [W.osa_eq, refuse_eq]
  refine wpAny_bind (wpAny_bind (inst.type.at (wpAny_bind (lookMro.at ?_))))
  rw [hm, mro_passes]
  refine wpAny_pure (wpAny_bind (inst.type.at (wpAny_bind ((W.looks_findIn X ha).at (wpAny_bind (lookTaker.at ?_))))))
  show wpAny _ _ (storeInOwnDict (.ref x) (.ref C) (.str name nt) name v (Option.isSome (none : Option Value))) _ _ _
  cases cd with
  | mk nm bs mro ns qn hd sn sb ab col del =>
    have hd1 : hd = true := hh
    subst hd1
    unfold storeInOwnDict ownDictForStores
    repeat (first | with_reducible refine store_in_new ?_ ?_ | with_reducible refine wpAny_loadPart_at hx ?_ | with_reducible refine lookCls.at ?_ | wp_step)
    · exact ⟨_, #[], _, (Heap.get?_update_ne _ _ _ _ far.symm).trans (Heap.get?_push_at rfl rfl), rfl, fun e he => absurd he (by simp), fun _ => rfl⟩
    · intro h' t' hn' hs
      have hx1 := Heap.get?_push_of_some (h := hp) { cls := .type "dict", data := .dict #[] } hx
      refine hq h' t' hp.objs.size (fun b o hb ho => ?_) (Nat.le_refl _) far.symm ?_ hn'
      · have hb2 : b ≠ hp.objs.size := Nat.ne_of_lt (Heap.lt_size ho)
        rw [hs.2 b hb2, Heap.get?_update_ne _ _ _ _ hb]
        exact Heap.get?_push_of_some _ ho
      · rw [hs.2 x far, Heap.get?_update_self _ hx1 rfl]
/-- a further value: the dict is there -/
theorem further_value {dx : Addr} {m0 : Str → Option Value} {nl : List Str} (X : K.In hp) (hx : hp.get? x = some { cls := .ref C, dict := some dx, data := .fields fv }) (hns : hp.Ns1 dx m0) (hw : Within m0 nl) (hz : nl.length ≤ 1000)
    (hcd : W.clsIn K C = some cd) (hm : cd.mro = .ref C :: exT) (hh : cd.hasDict = true) (ha : W.findIn K (.ref C) name = some none)
    (hq : ∀ h' t', (∀ b o, b ≠ dx → hp.get? b = some o → h'.get? b = some o) → h'.Ns1 dx (fun y => if y = name then some v else m0 y) → R (.ok (.ret .none)) ⟨h', gs, dr, t', os⟩) :
    codeAny (model prog w) A (.call (.builtin "object.__setattr__") ⟨[.ref x, .str name nt, v], []⟩) R ⟨hp, gs, dr, tk, os⟩ := by
  obtain ⟨od, _, _, hod, _, _⟩ := hns.count hw
  have inst : W.InstAt hp x { cls := .ref C, dict := some dx, data := .fields fv } C (some od) := ⟨hx, rfl, rfl, hod⟩
  have isObj : W.Looks (model prog w) hp (isInstance (.ref x) (.type "object")) true :=
    inst.type.andThen (W.looks_mroIn X (by
      unfold W.mroIn
      rw [hcd, Option.bind_some, hm]
      rfl))
  refine codeAny_call_builtin F.store_object.slot.plain F.store_object.entry (@W.check_slot (model prog w) _ _ ⟨hp, gs, dr, tk, os⟩ "object.__setattr__" "object" "__setattr__"
    (.ref x) [.str name nt, v] [] _ F.store_object.kind F.store_object.split isObj (F.store_object.args (.ref x) (.str name nt) v) ?_)
  have lookMro : W.Looks (model prog w) hp (mroOf (.ref C)) cd.mro := (W.looks_clsIn X hcd).andThen .now
  have lookTaker : W.Looks (model prog w) hp (storeTaker? none) none := .now
  have lookCls : W.Looks (model prog w) hp (classData C) cd := W.looks_clsIn X hcd
  rw [W.osa_eq, refuse_eq]
  refine wpAny_bind (wpAny_bind (inst.type.at (wpAny_bind (lookMro.at ?_))))
  rw [hm, mro_passes]
  refine wpAny_pure (wpAny_bind (inst.type.at (wpAny_bind ((W.looks_findIn X ha).at (wpAny_bind (lookTaker.at ?_))))))
  show wpAny _ _ (storeInOwnDict (.ref x) (.ref C) (.str name nt) name v (Option.isSome (none : Option Value))) _ _ _
  cases cd with
  | mk nm bs mro ns qn hd sn sb ab col del =>
    have hd1 : hd = true := hh
    subst hd1
    unfold storeInOwnDict ownDictForStores
    repeat (first | with_reducible refine OEX.store_in_old hns hw hz ?_ | with_reducible refine wpAny_loadPart_at hx ?_ | with_reducible refine lookCls.at ?_ | wp_step)
    intro h' t' hn' hs
    exact hq h' t' (fun b o hb ho => (hs.2 b hb).trans ho) hn'
end
theorem typ_E : typeOf (.type "Exception") = pure (.type "type") := by kernel_rfl
end SayE

namespace SayL
open PySem PySem.Spec PyProof.Rows L2
/-- what the written part says of such a class, at C -/
structure ErrC (K : PySem.W.Frag) (C : Addr) : Prop where
  obj : ∃ nm q N bs sn sub ab col dd k0 k1 k2 k3 k5, K.lookup C = some (excClassObj nm q C N bs SayE.exT true sn sub ab col dd k0 k1 k2 k3 k5 "Exception.__new__")
  sa : PySem.W.findIn K (.ref C) "__setattr__" = some (some (.builtin "object.__setattr__"))
  exC : PySem.W.subIn K (.ref C) (.type "BaseException") = some true
  tyC : PySem.W.typeIn K (.ref C) = some (.type "type")
  kC : PySem.W.keepIn K (.ref C) = true
theorem ErrC.cd {K : PySem.W.Frag} {C : Addr} (T : ErrC K C) : ∃ cd, PySem.W.clsIn K C = some cd ∧ cd.mro = .ref C :: SayE.exT ∧ cd.hasDict = true := by
  obtain ⟨nm, q, N, bs, sn, sub, ab, col, dd, k0, k1, k2, k3, k5, hC⟩ := T.obj
  refine ⟨{ name := nm, bases := bs, mro := .ref C :: SayE.exT, ns := N, qualname := q, hasDict := true, slotNames := sn, subclasses := sub, abstract := ab, collection := col, hasDel := false }, ?_, rfl, rfl⟩
  unfold PySem.W.clsIn
  rw [hC] <;> rfl
section
variable {X : Cx} {pins : List (Addr × Obj)} {σ : L2.St} {H : Hp} {s : Shared} {a C dx : Addr} {f : Str} {y : V} {u : Value} {fs : List (Str × V)} {Q : Unit → Shared → Prop} {E : Value → Shared → Prop} {A : Around}
theorem put_first (T : ErrC X.K C) (I : Inv X pins σ H s) (e : H a = some (exo a C none)) (hno : PySem.W.findIn X.K (.ref C) f = some none) (ry : RelV y u)
    (h : ∀ dx s', H dx = none → dx ≠ a → Inv X pins σ (upd (upd H dx (exd dx [(f, y)])) a (exo a C (some dx))) s' → Q () s') : wpAny (model X.prog X.w) A (setAttr (.ref a) f u) Q E s := by
  obtain ⟨cd, hcd, hm, hh⟩ := T.cd
  obtain ⟨t1, ho⟩ := exo_at I.hok e
  obtain ⟨hp, gs, dr, tk, os⟩ := s
  refine PySem.W.set_plain I.kIn (ox := { cls := .ref C, dict := none, data := .fields #[.ref t1, .none, .none, .none, .bool false, .none] }) (od := none) ⟨ho, rfl, rfl, trivial⟩ T.sa ?_
  refine SayE.first_value I.kIn ho hcd hm hh hno fun h' tk' dx k dn dne hx hn => ?_
  have hnd : H dx = none := I.hok.fresh dn
  have notDx : ∀ {b : Addr} {o : Obj}, hp.get? b = some o → b ≠ dx := fun q => Nat.ne_of_lt (Nat.lt_of_lt_of_le (Heap.lt_size q) dn)
  have notA : ∀ {b : Addr}, H b = none → b ≠ a := fun n z => by
    rw [z, e] at n
    cases n
  have U : Un X.fs [] H (upd (upd H dx (exd dx [(f, y)])) a (exo a C (some dx))) hp h' :=
    { keep := fun b o q n _ _ => k b o (notA n) q
      slot := fun b o q n _ _ => ⟨o.slots, k b o (notA n) q⟩
      free := fun b o q n _ => by
        rw [upd_ne (notA n), upd_ne (notDx q)]
        exact n
      there := fun b o q _ => by
        rcases Nat.decEq b a with hb | hb
        · exact ⟨o, k b o hb q⟩
        · exact ⟨_, by rw [hb]; exact hx⟩
      tups := fun b xs q => by
        rw [upd_ne (at_ne e q exo_tup), upd_ne (ne_of_none q hnd)]
        exact q
      frzs := fun b o v q => by
        rw [upd_ne (at_ne e q exo_frz), upd_ne (ne_of_none q hnd)]
        exact q
      tbls := fun b ps q => ⟨#[], by
        rw [upd_ne (at_ne e q exo_tbl), upd_ne (ne_of_none q hnd), q]
        simp⟩ }
  refine h dx _ hnd dne (I.un (t' := tk') U fun b o q => ?_)
  by_cases hb : b = a
  · subst hb
    rw [upd_same] at q
    injection q with q
    rw [← q]
    exact exo_ok hx
  · rw [upd_ne hb] at q
    by_cases hd : b = dx
    · subst hd
      rw [upd_same] at q
      injection q with q
      rw [← q]
      exact exd_ok hn (relO_put (fs := []) ry fun g => True.intro)
    · rw [upd_ne hd] at q
      refine (I.hok b o q).stay (fun c v hc z => k c v ?_ z) (fun c hc => ?_) (fun c xs hc => ?_)
      · rcases hc with hc | hc
        · rw [hc]; exact hb
        · exact at_ne e hc exo_own
      · rw [upd_ne (at_ne e hc exo_own), upd_ne (ne_of_none hc hnd)]; exact hc
      · rw [upd_ne (at_ne e hc exo_tup), upd_ne (ne_of_none hc hnd)]; exact hc
theorem put_further (T : ErrC X.K C) (I : Inv X pins σ H s) (e : H a = some (exo a C (some dx))) (ed : H dx = some (exd dx fs)) (hl : fs.length ≤ 900) (hno : PySem.W.findIn X.K (.ref C) f = some none) (ry : RelV y u)
    (h : ∀ s', Inv X pins σ (upd H dx (exd dx ((f, y) :: fs))) s' → Q () s') : wpAny (model X.prog X.w) A (setAttr (.ref a) f u) Q E s := by
  obtain ⟨cd, hcd, hm, hh⟩ := T.cd
  obtain ⟨t1, ho⟩ := exo_at I.hok e
  obtain ⟨mA, hns, rel⟩ := exd_at I.hok ed
  have hw := within_of rel
  obtain ⟨hp, gs, dr, tk, os⟩ := s
  obtain ⟨oD, _, _, hoD, _, _⟩ := hns.count hw
  refine PySem.W.set_plain I.kIn (ox := { cls := .ref C, dict := some dx, data := .fields #[.ref t1, .none, .none, .none, .bool false, .none] }) (od := some oD) ⟨ho, rfl, rfl, hoD⟩ T.sa ?_
  refine SayE.further_value I.kIn ho hns hw (by rw [List.length_map]; omega) hcd hm hh hno fun h' tk' k hn => ?_
  have there : ∃ o, h'.get? dx = some o := by
    obtain ⟨o, _, _, e', _⟩ := hn
    exact ⟨o, e'⟩
  exact h _ (I.write (t' := tk') (x := dx) (e := dx) (o := exd dx ((f, y) :: fs)) (by rw [ed]; exact True.intro) (.inl rfl) k there (exd_ok hn (relO_put ry rel)))
/-- Exception.__init__(self): nothing of it is told -/
theorem init_told {us : List Value} {Q : Value → Shared → Prop} (T : ErrC X.K C) (I : Inv X pins σ H s) (e : H a = some (exo a C none)) (hl : us.length ≤ sizeLine) (h : ∀ s', Inv X pins σ H s' → Q .none s') :
    wpAny (model X.prog X.w) A (call (.builtin "Exception.__init__") (.ref a :: us)) Q E s := by
  obtain ⟨nm, q, N, bs, sn, sub, ab, col, dd, k0, k1, k2, k3, k5, hC⟩ := T.obj
  obtain ⟨t1, ho⟩ := exo_at I.hok e
  obtain ⟨hp, gs, dr, tk, os⟩ := s
  refine wpAny_call (PySem.HandSPX.init_base F.excBase_Exception (fun _ => rfl) (I.kIn _ _ hC) ho hl fun h' t2 k hx => ?_)
  have J := I.write (t' := tk) (x := a) (e := a) (o := exo a C none) (by rw [e]; exact True.intro) (.inl rfl) k ⟨_, hx⟩ (exo_ok hx)
  have same : upd H a (exo a C none) = H := by
    funext b
    by_cases hb : b = a
    · rw [hb, upd_same, e]
    · rw [upd_ne hb]
  rw [same] at J
  exact h _ J
end

/-! ### the readings, the rules -/
def tEI (K : PySem.W.Frag) (ta : TA) : TE := fun σ H Q => ta σ H fun vs H1 => ∃ (a C : Addr) (ws : List V), vs = .ref a :: ws ∧ ws.length ≤ 1000 ∧ ErrC K C ∧ H1 a = some (exo a C none) ∧ Q .non H1
def sEV (K : PySem.W.Frag) (f : Str) (to te : TE) : TS := fun D σ H => te σ H fun y H1 => to σ H1 fun x H2 => ∃ a C : Addr, x = .ref a ∧ ErrC K C ∧ PySem.W.findIn K (.ref C) f = some none ∧
  ((H2 a = some (exo a C none) ∧ ∀ dx, H2 dx = none → dx ≠ a → D.nx σ (upd (upd H2 dx (exd dx [(f, y)])) a (exo a C (some dx)))) ∨
    ∃ (dx : Addr) (fs : List (Str × V)), H2 a = some (exo a C (some dx)) ∧ H2 dx = some (exd dx fs) ∧ fs.length ≤ 900 ∧ D.nx σ (upd H2 dx (exd dx ((f, y) :: fs))))
section
variable {X : Cx} {o e : Expr} {es : List Expr} {to te : TE} {ta : TA} {f : Str} {p p' p1 p2 pos : Pos}
theorem pe_einit {pl : Sem Bool} (hg : Gl X "Exception") (hm : X.mg "Exception" = none) (vE : PySem.W.findCls X.K (.type "Exception") (.type "type") "__init__" = some (.val (.builtin "Exception.__init__"))) (ha : PA X (e :: es) ta)
    (hc : eval (.Call (.Attribute (.Name "Exception" p1) "__init__" p2) (e :: es) [] pos) X.env = (do
      let ov ← eval (.Name "Exception" p1) X.env
      standAt p2.atName
      let (f, first) ← holding [ov] (getMethod ov "__init__" pl)
      callWith pos f first (backTo pos (starEach (e :: es) X.env)) (backToKw pos (keywordEach [] X.env))) := by rfl)
    (he : starEach (e :: es) X.env = (false, eval e X.env) :: starEach es X.env := by rfl) (hpl : (backTo pos (starEach es X.env)).any (·.1) = false := by rfl) :
    PE X (.Call (.Attribute (.Name "Exception" p1) "__init__" p2) (e :: es) [] pos) (tEI X.K ta) := by
  refine ⟨fun pins s σ H Q I h => ?_⟩
  refine PySem.W.methodCall_KW (ld_blt I hg hm (u := .type "Exception") (by first | rfl | decide +kernel) ?_ (by decide) (by decide)) hc
  obtain ⟨m, fr⟩ := I.fr
  refine PySem.W.method_type fr I.ok.mod.kin SayE.typ_E (by decide +kernel) vE (by decide +kernel) ?_
  show wpAny _ _ (callWith pos (Value.builtin "Exception.__init__") [] (backTo pos (starEach (e :: es) X.env)) []) _ _ _
  refine PyProof.Rows.callWith_method1 (thn (ha.run pos pins _ σ H _ (I.tok _) h) fun us s1 hh => ?_) he hpl
  obtain ⟨vs, H1, I1, r1, a, C, ws, ev, hl, T, ea, q⟩ := hh
  subst ev
  cases r1 with
  | @cons _ u0 _ ur ra rr =>
    obtain rfl : u0 = Value.ref a := ra
    exact init_told T I1 ea (by rw [← Paired.length rr, sizeLine_eq]; omega) fun s' J => ⟨.non, H1, J, rfl, q⟩
theorem ps_ev (ho : PE X o to) (he : PE X e te) (hs : swapsWith e (some (.Attribute o f p')) pos.line X.env = pure false := by rfl) : PS X (.Assign [.Attribute o f p'] e pos) (sEV X.K f to te) := by
  refine ⟨fun pins s σ H D I h => ?_⟩
  refine plainObj_wpAny_Assign_Attribute (thn (he.run pins s σ H _ I h) fun v s1 ⟨y, H1, I1, r1, q1⟩ => thn (ho.run pins s1 σ H1 _ I1 q1) fun u s2 hh => ?_) hs
  obtain ⟨x, H2, I2, r2, a, C, ex, T, hno, q⟩ := hh
  subst ex
  obtain rfl : u = Value.ref a := r2
  rcases q with ⟨ea, q⟩ | ⟨dx, fs, ea, ed, hl, q⟩
  · exact put_first T I2 ea hno r1 fun dx s' n ne J => ⟨σ, _, J, q dx n ne⟩
  · exact put_further T I2 ea ed hl hno r1 fun s' J => ⟨σ, _, J, q⟩
/-- the class called: its own initializer keeps sp -/
theorem pmk_err {CX : CXT} {x : Str} {C fI : Addr} {k : Nat} {fd : FuncData} {ps : List Str} {sp : Sp} (T : ErrC X.K C) (iC : PySem.W.findIn X.K (.ref C) "__init__" = some (some (.ref fI))) (tI : PySem.W.typeIn X.K (.ref fI) = some (.type "function"))
    (F1 : FnOk X.prog X.w X.K X.mg X.base CX k fI fd ps sp) (hr : Room (k + 1) X.A) (hb : Binds X.K fd ps []) (hx : Passes CX X (fun _ _ _ => False)) (hg : Gl X x) (hm : X.mg x = some (.ref C)) (ha : PA X (e :: es) ta)
    (hdb : (x == ("__debug__" : Str)) = false := by decide) (he : starEach (e :: es) X.env = (false, eval e X.env) :: starEach es X.env := by rfl) (hpl : (backTo pos (starEach es X.env)).any (·.1) = false := by rfl) :
    PMk X (.Call (.Name x p) (e :: es) [] pos) (tMkO C sp [] ta) := by
  intro pins s σ H Q I h
  obtain ⟨nm, q, N, bs, sn, sub, ab, col, dd, k0, k1, k2, k3, k5, hC⟩ := T.obj
  refine wpAny_Call_Name_kw (ld_glob I hg hm ?_ hdb)
  refine PySem.W.callWith_K (h₀ := X.base) I.ok.mod.kin T.kC (thn (ha.run pos pins s σ H _ I h) fun us s1 hh => ?_) he hpl
  obtain ⟨vs, H1, I1, r1, hz, q1⟩ := hh
  refine ⟨I1.kIn, ?_⟩
  show wpAny _ _ (call (.ref C) us) _ _ _
  obtain ⟨hp, gs, dr, tk, os⟩ := s1
  have above : hp.objs.size ≤ hp.objs.size + 1 := Nat.le_succ _
  have hq := q1 (hp.objs.size + 1) (I1.hok.fresh above)
  rw [List.append_nil] at hq
  have kk : ∀ b o, hp.get? b = some o → ((hp.push (PySem.W.kdv_tup us)).push (PySem.HandSPX.excO C hp.objs.size)).get? b = some o := fun b o z => Heap.get?_push_of_some _ (Heap.get?_push_of_some _ z)
  have hget : ((hp.push (PySem.W.kdv_tup us)).push (PySem.HandSPX.excO C hp.objs.size)).get? (hp.objs.size + 1) = some (PySem.HandSPX.excO C hp.objs.size) := by heap_get
  have I2 := I1.laid (t' := tk) (o := exo (hp.objs.size + 1) C none) kk above (exo_ok hget)
  have r2 : Vals (V.ref (hp.objs.size + 1) :: vs) (Value.ref (hp.objs.size + 1) :: us) := .cons rfl r1
  have hl : (Value.ref (hp.objs.size + 1) :: us ++ []).length = ps.length := by
    rw [List.append_nil, ← Vals.length r2]
    exact F1.len _ _ _ _ hq
  have hus : us.length ≤ sizeLine := by
    rw [← Paired.length r1, sizeLine_eq]
    omega
  have bnd := hb ⟨(hp.push (PySem.W.kdv_tup us)).push (PySem.HandSPX.excO C hp.objs.size), gs, dr, tk, os⟩ (Value.ref (hp.objs.size + 1) :: us) I2.kIn hl
  rw [List.append_nil] at bnd
  refine wpAny_call (PySem.HandSPX.call_own F.excBase_Exception (fun _ => rfl) (I1.kIn _ _ hC) (PySem.W.looks_findIn I1.kIn iC) (fun self => PySem.W.bind_fn I1.kIn self tI) hus
    (codeAny_mono (F1.run _ X.stack _ _ ⟨Value.ref (hp.objs.size + 1) :: us, []⟩ (Value.ref (hp.objs.size + 1) :: us) _ _ (fun _ _ _ => False) (hr.make C us []) (I2.env0.make C us []) bnd r2 hq) fun r s' hq' => ?_))
  cases r with
  | error er => exact hx pins σ _ _ er s' I2 hq'
  | ok fl =>
    cases fl with
    | ret u =>
      obtain ⟨v, H2, os2, bare2, un2, hok2, rv, ev, d, fs, ea, ed, hd1, q2⟩ := hq'
      subst ev
      obtain ⟨h2, g2, d2, t2, os'⟩ := s'
      exact ⟨rv, mk_end (raises_own T.exC T.tyC) I1 above kk un2 hok2 os2 bare2 ea ed hd1 q2⟩
    | next => exact hq'.elim
    | brk => exact hq'.elim
    | cont => exact hq'.elim
/-- C(), a class of one's own under Exception without an initializer of its own -/
theorem pmk_bare {x : Str} {C : Addr} {bmB : List Value} {B newId initId : String} (F : ExcBaseFacts B newId initId bmB) (q : PySem.W.excIn X.K C bmB newId = true) (gC : X.mg x = some (.ref C)) (kC : PySem.W.keepIn X.K (.ref C) = true)
    (r : Raises X (.ref C)) (hg : Gl X x) (hdb : (x == ("__debug__" : Str)) = false := by decide) : PMk X (.Call (.Name x p) [] [] pos) (fun _ H Q => Q (.ref C) none H) := by
  intro pins s σ H Q I h
  refine wpAny_Call_Name_kw (ld_glob I hg gC ?_ hdb)
  have I1 := I
  obtain ⟨bm, N, nm, qn, bs, hdct, sn, sub, ab, col, dd, k0, k1, k2, k3, k5, mN, hC, hN, hni, T⟩ := exc_obj I1.kIn q
  have fin : wpAny (model X.prog X.w) X.A (call (.ref C) []) (MkP X pins σ Q) X.xe s := by
    obtain ⟨hp, gs, dr, tk, os⟩ := s
    refine wpAny_call_exc_subT F T hC hN hni (fun h' e hm => ?_) (Nat.zero_le _)
    exact mk_of I1 hm r h (I1.hok.gone hm.new)
  exact PySem.W.callWith_K0 I.kIn kC fin
end
end SayL
set_option Elab.async false
set_option linter.all false
set_option maxRecDepth 100000
set_option maxHeartbeats 4000000
/-! try with several clauses, some of which name the error. HandS.TryMany and HandS.Exc tell the two kinds alone. -/
namespace SayL
open PySem PySem.Spec PyProof.Rows L2
inductive Clause where
  | only (c : Value) (ts : Addr → Value → Option Addr → TS)
  | named (c : Value) (i : Nat) (ts : Addr → Value → Option Addr → TS)
/-- behind a clause that names the error in slot i the slot is empty -/
def behindName (D : Ends) (i : Nat) : Ends := { nx := fun σ H => D.nx (σ.set i none) H, rt := D.rt, bk := fun σ H => D.bk (σ.set i none) H, ct := fun σ H => D.ct (σ.set i none) H }
def wMix (K : PySem.W.Frag) (Wout : WX) (D : Ends) : List Clause → WX
  | [] => Wout
  | .only c ts :: r => fun cls d σ H => ∃ b, PySem.W.exmOne K cls c = some b ∧ (b = true → ∀ a, H a = none → ts a cls d D σ H) ∧ (b = false → wMix K Wout D r cls d σ H)
  | .named c i ts :: r => fun cls d σ H => ∃ b, PySem.W.exmOne K cls c = some b ∧ (b = true → ∀ a, H a = none → ts a cls d (behindName D i) (σ.set i (some (.ref a))) H) ∧ (b = false → wMix K Wout D r cls d σ H)
inductive Clauses (X : Cx) : List ExceptHandler → List Clause → Prop
  | nil : Clauses X [] []
  | only {x : Str} {c : Value} {ts : Addr → Value → Option Addr → TS} {st : Stmt} {suite : List Stmt} {np pos' : Pos} {hds : List ExceptHandler} {l : List Clause} (hc : Names X x c)
      (hsu : ∀ (a : Addr) (oe : Obj) (cls : Value) (d : Option Addr) (pn : List (Addr × Obj)), Zc cls d oe → (∃ vs, oe.data = .fields vs) → PSs (X.suite a ((a, oe) :: pn)) (st :: suite) (ts a cls d))
      (r : Clauses X hds l) : Clauses X (.ExceptHandler (some (.Name x np)) none (st :: suite) pos' :: hds) (.only c ts :: l)
  | named {x n : Str} {i : Nat} {c : Value} {ts : Addr → Value → Option Addr → TS} {st : Stmt} {suite : List Stmt} {np pos' : Pos} {hds : List ExceptHandler} {l : List Clause} (hN : X.N.Nodup) (hi : X.N[i]? = some n)
      (hln : X.env.kindOf n = some .local) (hc : Names X x c)
      (hsu : ∀ (a : Addr) (oe : Obj) (cls : Value) (d : Option Addr) (pn : List (Addr × Obj)), Zc cls d oe → (∃ vs, oe.data = .fields vs) → PSs (X.suite a ((a, oe) :: pn)) (st :: suite) (ts a cls d))
      (r : Clauses X hds l) : Clauses X (.ExceptHandler (some (.Name x np)) (some n) (st :: suite) pos' :: hds) (.named c i ts :: l)
section
variable {X : Cx} {body : List Stmt} {h₀ : ExceptHandler} {hds : List ExceptHandler} {l : List Clause} {pos : Pos} {tb : WX → TS} {Wout : WX}
theorem ps_try_mix (hs : X.stack = X.env :: X.outer) (hf : X.env.frame = some X.env.locals) (tk : Takes X Wout)
    (hb : ∀ (W : WX) (pn : List (Addr × Obj)) (xe : Value → Shared → Prop), Takes (X.tr pn xe) W → PassesOwn (model X.prog X.w) X.A X.env xe → PSs (X.tr pn xe) body (tb W))
    (hh : Clauses X (h₀ :: hds) l) : PS X (.Try body (h₀ :: hds) [] [] pos) (fun D σ H => tb (wMix X.K Wout D l) D σ H) := by
  refine ⟨fun pins s σ H D I h => ?_⟩
  have ok := I.ok
  have frames : X.A.frames = some (X.env :: X.outer) := by rw [ok.frames, hs]
  let onErr : Value → Shared → Prop := fun e s1 =>
    wpAny (model X.prog X.w) X.A (noteFrame e X.env) (fun _ s2 =>
      wpAny (model X.prog X.w) X.A (setFlight e none) (fun _ s3 =>
        wpAny (model X.prog X.w) X.A (handleBy e X.env (h₀ :: hds)) (SP X pins D) X.xe s3) X.xe s2) X.xe s1
  have taken : Takes (X.tr (X.pn ++ pins) onErr) (wMix X.K Wout D l) := by
    intro u s' xx
    obtain ⟨ad, B, sI, pins', σ', H', cls, d, rfl, J', nb, up, sky, na, os, ag, w⟩ := xx
    have J : Inv X pins σ' H' sI := J'.ofTry ok
    have sky1 : Sky B (X.env :: X.outer) ad (Zc cls d) X.env.locals s'.heap := hs ▸ sky
    show wpAny (model X.prog X.w) X.A (noteFrame (.ref ad) X.env) _ _ _
    refine Sky.land Zc.steady frames hf sky1 fun h3 held up3 => ?_
    have J3 : Inv X pins σ' H' { s' with heap := h3 } := J.landed nb held.1 (up.trans up3) os ag
    obtain ⟨oe3, vs3, at3, z3, d3⟩ := held.there
    have noFrame : ad ∉ frs (X.env :: X.outer) := fun hm => by
      obtain ⟨_, o', e', no⟩ := held.2.2.1.mem hm
      have : oe3 = o' := Option.some.inj (at3.symm.trans e')
      exact no _ (this ▸ d3)
    have nL : ad ≠ X.env.locals := fun z => noFrame (List.mem_filterMap.mpr ⟨X.env, List.mem_cons_self, by rw [hf, z]⟩)
    have nF : ad ∉ X.fs := fun hm => by
      obtain ⟨e, he, q⟩ := List.mem_filterMap.mp hm
      exact noFrame (List.mem_filterMap.mpr ⟨e, List.mem_cons_of_mem _ he, q⟩)
    have S3 := J3.suite at3 d3 na nL nF
    -- the class of the error, against the one that a clause names
    have asked : ∀ {x : Str} {c : Value} {np : Pos} {b : Bool} {Q : Bool → Shared → Prop} {E : Value → Shared → Prop}, Names X x c → PySem.W.exmOne X.K cls c = some b → Q b { s' with heap := h3 } →
        wpAny (model X.prog X.w) (X.A.mark (some (.ref ad))) (eval (.Name x np) X.env) (fun v s4 => wpAny (model X.prog X.w) (X.A.mark (some (.ref ad))) (excMatches (.ref ad) v) Q E s4) E { s' with heap := h3 } := by
      intro x c np b Q E hc hb q
      have LT : PySem.W.Looks (model X.prog X.w) h3 (typeOf (.ref ad)) cls := fun A Q E s k q => wpAny_typeOf_ref (k _ _ at3) (by rw [z3.1]; exact q)
      have LM := PySem.W.exm_one (M := model X.prog X.w) J3.kIn LT hb
      obtain ⟨hg, hdbg, hm | ⟨hm, hv, hnn⟩⟩ := hc
      · exact ld_glob (X := X.suite ad ((ad, oe3) :: (X.pn ++ pins))) S3 hg hm (LM.here q) hdbg
      · exact ld_blt (X := X.suite ad ((ad, oe3) :: (X.pn ++ pins))) S3 hg hm hv (LM.here q) hnn hdbg
    have go : ∀ {hds' : List ExceptHandler} {l' : List Clause}, Clauses X hds' l' → wMix X.K Wout D l' cls d σ' H' →
        wpAny (model X.prog X.w) X.A (handleBy (.ref ad) X.env hds') (SP X pins D) X.xe { s' with heap := h3 } := by
      intro hds' l' hk
      induction hk with
      | nil =>
        intro w
        refine wpAny_handleBy_nil ?_
        obtain ⟨_, _, _, oe, vs, T, oT, ts', he, hz, hd, h1, _⟩ := id held
        unfold PySem.passOn
        refine wpAny_bind (wpAny_field he hd h1 ?_)
        rw [if_neg (show ¬ ((Value.ref T == Value.none) = true) by simp)]
        have out : wpAny (model X.prog X.w) X.A (setFlight (.ref ad) X.env.frame) (fun _ s4 => wpAny (model X.prog X.w) X.A (throw (.ref ad) : Sem Flow) (SP X pins D) X.xe s4) X.xe { s' with heap := h3 } := by
          rw [hf]
          exact HandSPX.setFlight_upZ held fun h4 hh4 up4 => wpAny_throw (tk _ _ ⟨ad, B, sI, pins, σ', H', cls, d, rfl, J, nb, (up.trans up3).trans up4, .inr (.inr (hs.symm ▸ hh4)), na, os, ag, w⟩)
        first
          | exact wpAny_bind (wpAny_pure (wpAny_bind out))
          | exact wpAny_bind out
      | @only x c ts st suite np pos' hds2 l2 hc hsu r ih =>
        intro w
        obtain ⟨b, hb1, hyes, hno⟩ := w
        refine wpAny_handleBy_cons (codeAny_handlers_test (asked hc hb1 ?_)) (by intro q; cases q)
        cases b with
        | false => exact ih (hno rfl)
        | true =>
          refine codeAny_handlers_suite (HandSPX.lands_againZ held fun h4 fl4 up4 => ?_)
          have J4 : Inv X pins σ' H' { s' with heap := h4 } := J.landed nb fl4.1 ((up.trans up3).trans up4) os ag
          obtain ⟨oe4, vs4, he4, hz4, hd4⟩ := fl4.there
          refine wpAny_mono ((hsu ad oe4 cls d (X.pn ++ pins) hz4 ⟨_, hd4⟩).run [] _ _ H' _ (J4.suite he4 hd4 na nL nF) (hyes rfl ad na)) (fun f s6 hsp => ?_) (fun _ _ z => z.elim)
          cases f with
          | next => exact let ⟨_, _, S6, q6⟩ := hsp; ⟨_, _, S6.unsuite ok, q6⟩
          | brk => exact let ⟨_, _, S6, q6⟩ := hsp; ⟨_, _, S6.unsuite ok, q6⟩
          | cont => exact let ⟨_, _, S6, q6⟩ := hsp; ⟨_, _, S6.unsuite ok, q6⟩
          | ret u => exact let ⟨_, _, _, S6, r6, q6⟩ := hsp; ⟨_, _, _, S6.unsuite ok, r6, q6⟩
      | @named x n i c ts st suite np pos' hds2 l2 hN hi hln hc hsu r ih =>
        intro w
        obtain ⟨b, hb1, hyes, hno⟩ := w
        refine wpAny_handleBy_cons (codeAny_handlers_test (asked hc hb1 ?_)) (by intro q; cases q)
        cases b with
        | false => exact ih (hno rfl)
        | true =>
          refine codeAny_handlers_suite_as (HandSPX.lands_againZ held fun h4 fl4 up4 => ?_)
          have J4 : Inv X pins σ' H' { s' with heap := h4 } := J.landed nb fl4.1 ((up.trans up3).trans up4) os ag
          obtain ⟨oe4, vs4, he4, hz4, hd4⟩ := fl4.there
          refine store_ok (X := X.suite ad ((ad, oe4) :: (X.pn ++ pins))) (v := .ref ad) (J4.suite he4 hd4 na nL nF) hN hi (.inl hln) rfl (fun s5 S5 => ?_) (.inr hln)
          refine wpAny_mono ((hsu ad oe4 cls d (X.pn ++ pins) hz4 ⟨_, hd4⟩).run [] s5 _ H' _ S5 (hyes rfl ad na)) (fun f s6 hsp => ?_) (fun _ _ z => z.elim)
          have gone : ∀ {σ6 : L2.St} {H6 : Hp} {Q : Shared → Prop}, Inv (X.suite ad ((ad, oe4) :: (X.pn ++ pins))) [] σ6 H6 s6 → (∀ s7, Inv X pins (σ6.set i none) H6 s7 → Q s7) →
              wpAny (model X.prog X.w) X.A (do bindName X.env n .none; unbindBehindTheSuite X.env n pos') (fun _ s7 => Q s7) X.xe s6 := fun S6 hq => gone_ok (S6.unsuite ok) hN hi hln hq
          cases f with
          | next => exact let ⟨_, _, S6, q6⟩ := hsp; gone S6 fun s7 J7 => ⟨_, _, J7, q6⟩
          | brk => exact let ⟨_, _, S6, q6⟩ := hsp; gone S6 fun s7 J7 => ⟨_, _, J7, q6⟩
          | cont => exact let ⟨_, _, S6, q6⟩ := hsp; gone S6 fun s7 J7 => ⟨_, _, J7, q6⟩
          | ret u => exact let ⟨_, _, _, S6, r6, q6⟩ := hsp; gone S6 fun s7 J7 => ⟨_, _, _, J7, r6, q6⟩
    exact go hh w
  refine wpAny_Try_except ?_
  refine wpAny_mono ((hb (wMix X.K Wout D l) (X.pn ++ pins) onErr taken PassesOwn.looking).run [] s σ H D (I.toTry _) h) (fun f s1 hsp => ?_) (fun e s1 he => he)
  cases f with
  | next => exact let ⟨_, _, J', q⟩ := hsp; wpAny_execs_nil ⟨_, _, J'.ofTry ok, q⟩
  | brk => exact let ⟨_, _, J', q⟩ := hsp; ⟨_, _, J'.ofTry ok, q⟩
  | cont => exact let ⟨_, _, J', q⟩ := hsp; ⟨_, _, J'.ofTry ok, q⟩
  | ret u => exact let ⟨_, _, _, J', r, q⟩ := hsp; ⟨_, _, _, J'.ofTry ok, r, q⟩
end
end SayL
set_option Elab.async false
set_option linter.all false
set_option maxRecDepth 100000
set_option maxHeartbeats 4000000
/-! A dict whose keys are pairs of rows of whole numbers (a tuple of two tuples) and whose values are True: what has been seen. -/
namespace SayD
open PySem PySem.Spec PyProof.Rows L2
/-- an entry: where the key's tuple stands, its two rows -/
structure Seen where
  at_ : Addr
  fst : List Int
  snd : List Int
def rowK (r : List Int) : NestedKey := .tup (r.map .num)
def pairK (r t : List Int) : NestedKey := .tup [rowK r, rowK t]
def Seen.key (e : Seen) : NestedKey := pairK e.fst e.snd
def Seen.ent (e : Seen) : NestedKey × Addr × Value := (e.key, e.at_, .bool true)
theorem nums_inj : ∀ {r t : List Int}, r.map NestedKey.num = t.map NestedKey.num → r = t
  | [], [], _ => rfl
  | [], _ :: _, h => by simp at h
  | _ :: _, [], h => by simp at h
  | a :: r, b :: t, h => by
    simp only [List.map_cons, List.cons.injEq, NestedKey.num.injEq] at h
    rw [h.1, nums_inj h.2]
theorem pairK_inj {r t r' t' : List Int} (h : pairK r t = pairK r' t') : r = r' ∧ t = t' := by
  unfold pairK rowK at h
  simp only [NestedKey.tup.injEq, List.cons.injEq, and_true] at h
  exact ⟨nums_inj h.1, nums_inj h.2⟩
theorem depth_nums : ∀ r : List Int, NestedKey.depthAll (r.map .num) = 0
  | [] => rfl
  | a :: r => by
    rw [List.map_cons, NestedKey.depthAll, depth_nums r]
    rfl
theorem depth_pair (r t : List Int) : (pairK r t).depth ≤ 8 := by
  have h : ∀ x : List Int, (rowK x).depth = 1 := fun x => by
    unfold rowK
    rw [NestedKey.depth, depth_nums]
  unfold pairK
  rw [NestedKey.depth, NestedKey.depthAll, NestedKey.depthAll, NestedKey.depthAll, h, h]
  decide
/-- the dict at d, by its own object alone -/
def SeenO (P : Program) (w : World) (d : Addr) (es : List Seen) : HO := .ext fun h => (d == sysModules) = false ∧ es.length ≤ sizeLine ∧
  ∃ o en ep, h.get? d = some o ∧ o.ExactDict ∧ o.data = .dict en ep ∧ en.toList = (es.map Seen.ent).map (entryOfKey (nestedKind P w)) ∧ ((es.map Seen.ent).map (·.1)).Nodup
theorem seenO_tup {P : Program} {w : World} {d : Addr} {es : List Seen} {xs : List V} : SeenO P w d es ≠ .tup xs := fun z => by
  have z' : HO.ext _ = HO.tup xs := z
  cases z'
theorem seenO_own {P : Program} {w : World} {d x : Addr} {es : List Seen} : SeenO P w d es ≠ .own x := fun z => by
  have z' : HO.ext _ = HO.own x := z
  cases z'
theorem seenO_lst {P : Program} {w : World} {d : Addr} {es : List Seen} {xs : List V} : SeenO P w d es ≠ .lst xs := fun z => by
  have z' : HO.ext _ = HO.lst xs := z
  cases z'
theorem seenO_ins {P : Program} {w : World} {d C dx : Addr} {es : List Seen} {fs : List (Str × V)} : SeenO P w d es ≠ .ins C dx fs := fun z => by
  have z' : HO.ext _ = HO.ins C dx fs := z
  cases z'
/-- at b stands the tuple of the two rows -/
def KeyAt (H : Hp) (b : Addr) (r t : List Int) : Prop := ∃ p q : Addr, H b = some (.tup [.ref p, .ref q]) ∧ H p = some (.tup (r.map V.int)) ∧ H q = some (.tup (t.map V.int))
def SeenAt (P : Program) (w : World) (H : Hp) (d : Addr) (es : List Seen) : Prop := H d = some (SeenO P w d es) ∧ ∀ e ∈ es, KeyAt H e.at_ e.fst e.snd
theorem KeyAt.same {H H' : Hp} {b : Addr} {r t : List Int} (k : KeyAt H b r t) (s : ∀ c xs, H c = some (.tup xs) → H' c = some (.tup xs)) : KeyAt H' b r t := by
  obtain ⟨p, q, h1, h2, h3⟩ := k
  exact ⟨p, q, s _ _ h1, s _ _ h2, s _ _ h3⟩
def has (es : List Seen) (r t : List Int) : Bool := es.any fun e => decide (e.fst = r ∧ e.snd = t)
theorem at_key (es : List Seen) (r t : List Int) : (atKey (es.map Seen.ent) (pairK r t)).isSome = has es r t := by
  induction es with
  | nil => rfl
  | cons e es ih =>
    unfold has
    rw [List.any_cons, ← has, ← ih]
    by_cases h : e.fst = r ∧ e.snd = t
    · have hk : e.key = pairK r t := by unfold Seen.key; rw [h.1, h.2]
      simp [atKey, Seen.ent, hk, h]
    · have hk : ¬ e.key = pairK r t := fun z => h (pairK_inj z)
      simp [atKey, Seen.ent, hk, h]
section
variable {P : Program} {w : World} {H : Hp} {h : Heap}
theorem row_is (ok : HOk P w H h) {p : Addr} {r : List Int} (e : H p = some (.tup (r.map V.int))) : NestedIs h (rowK r) (.ref p) := by
  obtain ⟨_, its, rv, o, h1, h2, n, h3⟩ := (show ObjOk P w H h p (.tup (r.map V.int)) from ok p _ e)
  have all : ∀ {r : List Int} {its : List Value}, Vals (r.map V.int) its → NestedAll h (r.map .num) its := by
    intro r
    induction r with
    | nil => intro its rv; cases rv; exact .nil
    | cons a r ih =>
      intro its rv
      cases rv with
      | cons q qs =>
        obtain ⟨tk, rfl⟩ := q
        exact .cons (.int a tk) (ih qs)
  exact .tup h1 h2 h3 (by simpa using all rv)
theorem key_is (ok : HOk P w H h) {b : Addr} {r t : List Int} (k : KeyAt H b r t) : (nestedKind P w).is h (pairK r t) b := by
  obtain ⟨p, q, e1, e2, e3⟩ := k
  obtain ⟨_, its, rv, o, h1, h2, n, h3⟩ := (show ObjOk P w H h b (.tup [.ref p, .ref q]) from ok b _ e1)
  refine ⟨?_, depth_pair r t⟩
  cases rv with
  | cons q1 qs =>
    cases qs with
    | cons q2 qs =>
      cases qs
      obtain rfl := (show _ = Value.ref p from q1)
      obtain rfl := (show _ = Value.ref q from q2)
      exact .tup h1 h2 h3 (.cons (row_is ok e2) (.cons (row_is ok e3) .nil))
theorem seen_at (ok : HOk P w H h) {d : Addr} {es : List Seen} (s : SeenAt P w H d es) : (d == sysModules) = false ∧ es.length ≤ sizeLine ∧ h.DictOfH (nestedKind P w) d (es.map Seen.ent) := by
  have x : ObjOk P w H h d (SeenO P w d es) := ok d _ s.1
  obtain ⟨⟨h0, hl, o, en, ep, h1, h2, h3, h4, h5⟩, _, _⟩ := x
  refine ⟨h0, hl, o, en, ep, h1, h2, h3, h4, fun x hx => ?_, h5⟩
  obtain ⟨e, he, rfl⟩ := List.mem_map.mp hx
  exact key_is ok (s.2 e he)
theorem seen_ok {d : Addr} {es : List Seen} {H' : Hp} (h0 : (d == sysModules) = false) (hl : es.length ≤ sizeLine) (x : h.DictOfH (nestedKind P w) d (es.map Seen.ent)) : ObjOk P w H' h d (SeenO P w d es) := by
  obtain ⟨o, en, ep, h1, h2, h3, h4, _, h5⟩ := x
  refine ⟨⟨h0, hl, o, en, ep, h1, h2, h3, h4, h5⟩, ⟨o, h1⟩, fun ha hb z k => ?_⟩
  obtain ⟨z0, zl, o', en', ep', z1, z2⟩ := z
  exact ⟨z0, zl, o', en', ep', k _ z1, z2⟩
end
def tSeenNew (P : Program) (w : World) : TE := fun _ H Q => ∀ d, H d = none → Q (.ref d) (upd H d (SeenO P w d []))
def tSeenIn (P : Program) (w : World) (ti td : TE) : TE := fun σ H Q => ti σ H fun y H1 => td σ H1 fun x H2 => ∃ (d b : Addr) (es : List Seen) (r t : List Int), x = .ref d ∧ y = .ref b ∧ SeenAt P w H2 d es ∧ KeyAt H2 b r t ∧ Q (.bl (has es r t)) H2
def sSeenPut (P : Program) (w : World) (td ti : TE) : TS := fun D σ H => td σ H fun x H1 => ti σ H1 fun y H2 => ∃ (d b : Addr) (es : List Seen) (r t : List Int), x = .ref d ∧ y = .ref b ∧ SeenAt P w H2 d es ∧ KeyAt H2 b r t ∧
  has es r t = false ∧ es.length < sizeLine ∧ D.nx σ (upd H2 d (SeenO P w d (es ++ [⟨b, r, t⟩])))
section
variable {X : Cx} {o i : Expr} {pos pos' : Pos} {td ti : TE}
theorem pe_seenNew : PE X (.Dict [] [] pos) (tSeenNew X.prog X.w) := by
  refine ⟨fun pins s σ H Q I h => wpAny_Dict_empty ?_⟩
  have ok : ObjOk X.prog X.w (upd H s.heap.objs.size (SeenO X.prog X.w s.heap.objs.size [])) (s.heap.push { cls := .type "dict", data := .dict #[] }) s.heap.objs.size (SeenO X.prog X.w s.heap.objs.size []) :=
    seen_ok (beq_eq_false_iff_ne.mpr (Ne.symm (Nat.ne_of_lt I.big))) (Nat.zero_le _) (Heap.DictOfH.new s.heap)
  exact ⟨.ref s.heap.objs.size, _, I.laid (t' := s.toks) (fun _ _ q => Heap.get?_push_of_some _ q) (Nat.le_refl _) ok, rfl, h _ (I.hok.fresh (Nat.le_refl _))⟩
theorem pc_seenIn (hu : X.A.units + 10 < cLine) (hi : PE X i ti) (ho : PE X o td) : PC X .In i o (tSeenIn X.prog X.w ti td) := by
  refine ⟨fun pins s σ H Q I h => ?_⟩
  refine thn (hi.run pins s σ H _ I h) fun iv s1 ⟨y, H1, I1, ry, q1⟩ => thn (ho.run pins s1 σ H1 _ I1 q1) fun u s2 hh => ?_
  obtain ⟨x, H2, I2, rx, d, b, es, r, t, ex, ey, sa, ka, q2⟩ := hh
  subst ex
  subst ey
  obtain rfl : u = Value.ref d := rx
  obtain rfl : iv = Value.ref b := ry
  obtain ⟨h0, hl, hm⟩ := seen_at I2.hok sa
  refine wpAny_in_heap (show (nestedKind X.prog X.w).room X.A.in1 from ?_) (key_is I2.hok ka) h0 hm ?_
  · show X.A.in1.units + 8 < cLine
    rw [Around.in1_units]
    omega
  · rw [at_key]
    exact ⟨.bl (has es r t), H2, I2.tok _, rfl, q2⟩
theorem ps_seenPut {j : Nat} {p : Pos} (hu : X.A.units + 10 < cLine) (ho : PE X o td) (hi : PE X i ti) (hs : swapsWith (.Constant (.bool true) j p) (some (.Subscript o i pos')) pos.line X.env = pure false := by rfl) :
    PS X (.Assign [.Subscript o i pos'] (.Constant (.bool true) j p) pos) (sSeenPut X.prog X.w td ti) := by
  refine ⟨fun pins s σ H D I h => ?_⟩
  refine wpAny_Assign_Subscript (thn ((pe_bl (X := X)).run pins s σ H (fun v H1 => v = V.bl true ∧ H1 = H) I ⟨rfl, rfl⟩) fun rv s1 hh => ?_) hs
  obtain ⟨v, H0, I1, rr, ev, eH⟩ := hh
  subst ev
  subst eH
  obtain rfl : rv = Value.bool true := rr
  refine thn (ho.run pins s1 σ H0 _ I1 h) fun u s2 ⟨x, H1, I2, rx, q1⟩ => thn (hi.run pins s2 σ H1 _ I2 q1) fun iv s3 hh => ?_
  obtain ⟨y, H2, I3, ry, d, b, es, r, t, ex, ey, sa, ka, hn, hz, q2⟩ := hh
  subst ex
  subst ey
  obtain rfl : u = Value.ref d := rx
  obtain rfl : iv = Value.ref b := ry
  obtain ⟨h0, hl, hm⟩ := seen_at I3.hok sa
  refine wpAny_setItem_heap (hsz := by rw [List.length_map]; exact hl) (show (nestedKind X.prog X.w).room X.A.in1 from ?_) (key_is I3.hok ka) hm fun h' hm' hs' => ?_
  · show X.A.in1.units + 8 < cLine
    rw [Around.in1_units]
    omega
  · have none_there : atKey (es.map Seen.ent) (pairK r t) = none := by
      have e := at_key es r t
      rw [hn] at e
      cases z : atKey (es.map Seen.ent) (pairK r t) with
      | none => rfl
      | some _ => rw [z] at e; cases e
    rw [storedH_new none_there] at hm'
    have em : es.map Seen.ent ++ [(pairK r t, b, Value.bool true)] = (es ++ [(⟨b, r, t⟩ : Seen)]).map Seen.ent := by
      rw [List.map_append]
      rfl
    rw [em] at hm'
    have there : ∃ q, h'.get? d = some q := let ⟨q, _, _, hq, _⟩ := hm'; ⟨q, hq⟩
    refine ⟨σ, _, d_write I3 (by rw [sa.1]; exact True.intro) hs' there (seen_ok h0 ?_ hm'), q2⟩
    rw [List.length_append]
    exact hz
end
end SayD
set_option Elab.async false
set_option linter.all false
set_option maxRecDepth 100000
set_option maxHeartbeats 400000
/-! for a, b in enumerate(xs, start=k), xs a list. -/
namespace SayN
open PySem PySem.Spec PyProof.Rows L2
/-- the list at a, each item in a new pair with its place, counted from k on -/
def ItS (K : PySem.W.Frag) (a : Addr) (k : Int) : It :=
  ⟨fun i H => ∃ (xs : List V) (x : V), SqL K H a xs ∧ xs[i]? = some x,
    fun i H v H' => ∃ T x, v = .ref T ∧ H T = none ∧ H' = upd H T (.tup [.int (k + (i : Nat)), x]) ∧ ∀ xs, SqL K H a xs → xs[i]? = some x,
    fun i H => ∃ xs : List V, SqL K H a xs ∧ xs.length = i⟩
theorem list_apart {h : Heap} {l it : Addr} {i : Nat} {items : Array Value} (hl : h.IsList l items) (hi : h.IsListIter it l i) : l ≠ it := fun z => by
  obtain ⟨o, e, c, _⟩ := hl
  obtain ⟨o', e', c', _⟩ := hi
  rw [z, e'] at e
  injection e with e
  rw [e, c] at c'
  injection c' with c'
  exact absurd c' (by decide)
theorem turn_enumS {P : Program} {w : World} {K : PySem.W.Frag} {elts : List Expr} {kk : Nat} {tpos : Pos} (a e it : Addr) (k : Int) :
    Turn P w K (.Tuple elts kk tpos) (ItS K a k) [e, it] e (fun i h => (∃ old, IsEnum h e it (k + (i : Nat)) old) ∧ h.IsListIter it a i ∧ e ≠ it) where
  mem := by simp
  obj := fun i h st b hb => by
    obtain ⟨⟨old, he⟩, ⟨o, ho, hc, hd⟩, _⟩ := st
    rcases (by simpa using hb : b = e ∨ b = it) with z | z
    · subst z
      exact ⟨_, he, fun v q => nomatch q⟩
    · subst z
      exact ⟨o, ho, fun v q => by rw [hd] at q; cases q⟩
  keep := fun i h h' st kp => by
    obtain ⟨⟨old, he⟩, hi, hne⟩ := st
    exact ⟨⟨old, kp e (by simp) _ he⟩, hi.at fun o q => kp it (by simp) o q, hne⟩
  item := by
    intro X hP hw hK hc i pins s σ H E I hf st hg
    subst hP hw hK
    obtain ⟨⟨old, he⟩, hit, hne⟩ := st
    obtain ⟨xs, x, hq, hx⟩ := hg
    obtain ⟨its, rv, p, hz⟩ := I.list hq
    obtain ⟨u, hu, ru⟩ := rv.get hx
    have hel : e < s.heap.objs.size := Heap.lt_size he
    have hil : it < s.heap.objs.size := let ⟨_, q, _⟩ := hit; Heap.lt_size q
    have hal := list_apart p.isList hit
    have hin : i < its.toArray.size := by
      rw [List.size_toArray]
      exact (List.getElem?_eq_some_iff.mp hu).1
    have hea : e ≠ a := fun z => by
      obtain ⟨o, eo, c, _⟩ := p.isList
      have he' : s.heap.get? e = some _ := he
      rw [z, eo] at he'
      injection he' with he'
      rw [he'] at c
      injection c with c
      exact absurd c (by decide)
    have D := Draws.list (prog := X.prog) (w := X.w) (A := X.A.in1) (I.ok.hd hc) it a hal its.toArray
    refine wpAny_pyNext_enum_itemC D he ⟨hit, p.isList⟩ hin hne (by simp [hne, hea]) fun x' h' tk hP' ho hst' hT hsz hk => ?_
    obtain ⟨hit', _⟩ := hst'
    have hxu : x' = u := by
      have q : its[i]? = some x' := by simpa using hP'
      rw [hu] at q
      exact (Option.some.inj q).symm
    subst hxu
    refine ⟨_, rfl, wpAny_letOwnedTupleGo_enum (s := { s with heap := h', toks := tk + 1 }) ho fun h'' he' sb => ?_⟩
    have hT2 := (sb.2 _ (Nat.ne_of_gt hel)).trans hT
    have new : ObjOk X.prog X.w (upd H s.heap.objs.size (.tup [.int (k + (i : Nat)), x])) h'' s.heap.objs.size (.tup [.int (k + (i : Nat)), x]) :=
      ⟨by show 2 ≤ sizeLine; decide, [.int (k + (i : Nat)) tk, x'], .cons ⟨_, rfl⟩ (.cons ru .nil), ⟨_, hT2, rfl, _, rfl⟩⟩
    have I1 := I.turnedNew (h' := h'') (t' := tk + 1) (ch := [e, it]) (fun b ob hb q => (sb.2 b (fun z => hb (by simp [z]))).trans (hk b ob (fun z => hb (by simp [z])) (fun z => hb (by simp [z])) q)) hf (Nat.le_refl _) new
    refine ⟨.ref s.heap.objs.size, _, I1, rfl, ⟨_, x, rfl, I.hok.fresh (Nat.le_refl _), rfl, fun ys hy => by rw [I.list_inj hy hq]; exact hx⟩, ⟨⟨x', ?_⟩, hit'.at fun o q => (sb.2 it (Ne.symm hne)).trans q, hne⟩, fun b hb => ?_⟩
    · have e1 : k + ((i + 1 : Nat) : Int) = k + (i : Nat) + 1 := by omega
      rw [e1]
      exact he'
    · have hb' : b < s.heap.objs.size := by
        rcases (by simpa using hb : b = e ∨ b = it) with z | z
        · rw [z]; exact hel
        · rw [z]; exact hil
      rw [upd_ne (Nat.ne_of_lt hb')]
      exact (hf b hb).1
  done := by
    intro X hP hw hK hc i pins s σ H E I hf st hg
    subst hP hw hK
    obtain ⟨⟨old, he⟩, hit, hne⟩ := st
    obtain ⟨xs, hq, hx⟩ := hg
    obtain ⟨its, rv, p, hz⟩ := I.list hq
    obtain ⟨f0, f1, f2, f3, f4, f5⟩ := hf it (by simp)
    have hl := rv.length
    have hal := list_apart p.isList hit
    have D := Draws.list (prog := X.prog) (w := X.w) (A := X.A.in1) (I.ok.hd hc) it a hal its.toArray
    have hi : its.toArray.size = i := by
      rw [List.size_toArray]
      omega
    refine wpAny_pyNext_enum_endD D he ⟨by rw [hi]; exact hit, p.isList⟩ fun h' eb => ⟨rfl, I.turned (t' := s.toks) (fun b o hb q => eb b o hb q) f0 f1 f3 f4 f5⟩
  self := fun A i s Q E st h => let ⟨⟨_, he⟩, _⟩ := st; wpAny_pyIter_enum he h
theorem typeWithKw {M : Model} {A : Around} {E : Value → Shared → Prop} {s : Shared} {env : Env} {pos : Pos} {T : String} {e : Expr} {kws : List Keyword} {Q : Value → Shared → Prop}
    (h : wpAny M A (spliced (backTo pos (starEach [e] env))) (fun vs s1 => wpAny M A (evalAll ((backToKw pos (keywordEach kws env)).map (·.2))) (fun ws s2 => wpAny M A (call (.type T) vs (((backToKw pos (keywordEach kws env)).filterMap (·.1)).zip ws)) Q E s2) E s1) E s)
    (hst : backTo pos (starEach [e] env) = (false, eval e env) :: backTo pos (starEach [] env)) (hpl : (backTo pos (starEach [e] env)).any (·.1) = false) (hall : (backToKw pos (keywordEach kws env)).all (·.1.isSome) = true)
    (hnone : (backToKw pos (keywordEach kws env)).any (·.1.isNone) = false) : wpAny M A (callWith pos (.type T) [] (backTo pos (starEach [e] env)) (backToKw pos (keywordEach kws env))) Q E s := by
  have args : wpAny M A (evalArgs (.type T) true (backTo pos (starEach [e] env)) (backToKw pos (keywordEach kws env))) (fun a s1 => wpAny M A (call (.type T) ([] ++ a.pos) a.kw) Q E s1) E s := by
    rw [hst] at h ⊢
    exact evalArgs_kwB hall h
  unfold callWith
  refine wpAny_bind (wpAny_holding (thn args fun a s1 h1 => wpAny_bind (wpAny_standAt ?_)))
  simp only [hpl, hnone, Bool.or_false]
  refine wpAny_bind (wpAny_pure (wpAny_bind (thn h1 fun r s2 hr => ?_)))
  exact wpAny_bind (wpAny_holding (wpAny_point (wpAny_pure hr)))
def iEnumS (K : PySem.W.Frag) (ta : TA) (tk : TA) : TI := fun σ H R => ta σ H fun vs H1 => tk σ H1 fun zs H2 => ∃ a xs k, vs = [.ref a] ∧ zs = [.int k] ∧ SqL K H2 a xs ∧ (-(2 ^ 62) ≤ k ∧ k < 2 ^ 62) ∧ R (ItS K a k) H2
theorem pi_enumS {X : Cx} {e : Expr} {kws : List Keyword} {ta tk : TA} {p pos tpos : Pos} {elts : List Expr} {kk : Nat} (hg : Gl X "enumerate") (hm : X.mg "enumerate" = none) (ha : PA X [e] ta) (hk : PK X kws tk)
    (hst : backTo pos (starEach [e] X.env) = (false, eval e X.env) :: backTo pos (starEach [] X.env) := by rfl) (hpl : (backTo pos (starEach [e] X.env)).any (·.1) = false := by rfl)
    (hall : (backToKw pos (keywordEach kws X.env)).all (·.1.isSome) = true := by rfl) (hnone : (backToKw pos (keywordEach kws X.env)).any (·.1.isNone) = false := by rfl) (hks : (backToKw pos (keywordEach kws X.env)).filterMap (·.1) = [Str.ofString "start"] := by rfl) :
    PI X (.Tuple elts kk tpos) (.Call (.Name "enumerate" p) [e] kws pos) (iEnumS X.K ta tk) := by
  refine ⟨fun pins s σ H R I h => ?_⟩
  refine wpAny_Call_Name_kw (ld_blt I hg hm boot_enumerate ?_ (by decide) (by decide))
  let Post : List V → List V → Hp → Prop := fun vs zs H2 => ∃ a xs k, vs = [.ref a] ∧ zs = [.int k] ∧ SqL X.K H2 a xs ∧ (-(2 ^ 62) ≤ k ∧ k < 2 ^ 62) ∧ R (ItS X.K a k) H2
  have h1 : ta σ H (fun vs H1 => tk σ H1 (Post vs)) := h
  refine typeWithKw ?_ hst hpl hall hnone
  refine thn (ha.run pos pins s σ H (fun vs H1 => tk σ H1 (Post vs)) I h1) fun us s1 hh => ?_
  obtain ⟨vs, H1, I1, r1, q1⟩ := hh
  refine thn (hk.run pos pins s1 σ H1 (Post vs) I1 q1) fun ws s2 hh => ?_
  obtain ⟨zs, H2, I2, r2, hP⟩ := hh
  obtain ⟨a, xs, k, ev, ez, hq, ⟨k0, k1⟩, q⟩ := hP
  subst ev
  subst ez
  rw [hks]
  match us, ws, r1, r2 with
  | [_], [_], .cons ra .nil, .cons rk .nil =>
    obtain rfl := (show _ = Value.ref a from ra)
    obtain ⟨t, rfl⟩ := rk
    obtain ⟨its, rv, p', hz⟩ := I2.list hq
    refine enum_begins_start (begins_list a its.toArray) p'.isList (by omega) (by omega) fun h' he hit hsz hkp => wpAny_pyIter_enum he ?_
    have I3 : Inv X pins σ H2 { s2 with heap := h' } := I2.kept (t' := s2.toks) hkp
    have st : h'.IsListIter s2.heap.objs.size a 0 := ⟨_, hit, rfl, rfl⟩
    refine ⟨s2.heap.objs.size + 1, [s2.heap.objs.size + 1, s2.heap.objs.size], _, _, H2, rfl, I3, turn_enumS a (s2.heap.objs.size + 1) s2.heap.objs.size k, ⟨⟨.none, ?_⟩, st, Nat.succ_ne_self _⟩, fun b hb => ?_, q⟩
    · have e0 : k + ((0 : Nat) : Int) = k := by omega
      rw [e0]
      exact he
    · have hle : s2.heap.objs.size ≤ b := by
        rcases (by simpa using hb : b = s2.heap.objs.size + 1 ∨ b = s2.heap.objs.size) with z | z
        · rw [z]; exact Nat.le_succ _
        · rw [z]; exact Nat.le_refl _
      exact I2.fpOk hle (I2.hok.fresh hle)
/-- over a list that the body leaves as it is -/
theorem for_enumS {K : PySem.W.Frag} {a : Addr} {k : Int} {xs : List V} {g : TG} {tb : TS} {D : Ends} {σ : L2.St} {H : Hp} (Pv : Nat → L2.St → Hp → Prop) (h0 : Pv 0 σ H) (hl : ∀ i σ H, i ≤ xs.length → Pv i σ H → SqL K H a xs)
    (hs : ∀ i x σ H T, xs[i]? = some x → Pv i σ H → H T = none → g (.ref T) σ (upd H T (.tup [.int (k + (i : Nat)), x])) fun σ2 H2 => tb { D with nx := Pv (i + 1), ct := Pv (i + 1), bk := D.nx } σ2 H2) (hd : ∀ σ H, Pv xs.length σ H → D.nx σ H) :
    ∃ W : Nat → Nat → L2.St → Hp → Prop, (∃ m, W 0 m σ H) ∧ ∀ i m σ H, W i m σ H →
      ((ItS K a k).stop i H ∧ D.nx σ H) ∨ ((ItS K a k).go i H ∧ ∃ N : L2.St → Hp → Prop, (∀ σ' H', N σ' H' → ∃ m', m' < m ∧ W (i + 1) m' σ' H') ∧ ∀ x H', (ItS K a k).yld i H x H' → g x σ H' fun σ2 H2 => tb { D with nx := N, ct := N, bk := D.nx } σ2 H2) := by
  refine ⟨fun i m σ H => m = xs.length - i ∧ i ≤ xs.length ∧ Pv i σ H, ⟨xs.length, by simp, Nat.zero_le _, h0⟩, fun i m σ H hw => ?_⟩
  obtain ⟨hm, hi, p⟩ := hw
  have q := hl i σ H hi p
  rcases Nat.lt_or_ge i xs.length with lt | ge
  · refine .inr ⟨⟨xs, xs[i], q, by simp [lt]⟩, Pv (i + 1), fun σ' H' p' => ⟨xs.length - (i + 1), by omega, rfl, lt, p'⟩, fun x H' y => ?_⟩
    obtain ⟨T, z, ev, hn, eH, y⟩ := y
    subst ev
    subst eH
    exact hs i z σ H T (y xs q) p hn
  · have e : i = xs.length := Nat.le_antisymm hi ge
    subst e
    exact .inl ⟨⟨xs, q, rfl⟩, hd σ H p⟩
end SayN
set_option Elab.async false
set_option linter.all false
set_option maxRecDepth 100000
set_option maxHeartbeats 400000
/-! for k, v in d.items(), d a dict whose keys are tuples. -/
namespace SayI
open PySem PySem.Spec PyProof.Rows L2
/-- the pairs of the locked dict at d: the key's own tuple, its value, in a new tuple -/
def ItI (d : Addr) (o : Obj) (kvs : List (List Key × V)) : It :=
  ⟨fun i H => H d = some (.frz o (.dT kvs)) ∧ i < kvs.length,
    fun i H x H' => ∃ T q k v, kvs[i]? = some (k, v) ∧ H q = some (.tup (k.map kV)) ∧ x = .ref T ∧ H T = none ∧ H' = upd H T (.tup [.ref q, v]),
    fun i H => H d = some (.frz o (.dT kvs)) ∧ kvs.length ≤ i⟩
theorem raw_of {X : Cx} {pins : List (Addr × Obj)} {σ : L2.St} {H : Hp} {s : Shared} {d : Addr} {o : Obj} {kvs : List (List Key × V)} (I : Inv X pins σ H s) (h : H d = some (.frz o (.dT kvs))) :
    (d == sysModules) = false ∧ ∃ es ep, o.data = .dict es ep ∧ DT.Raw s.heap d es ep ∧ es.size = kvs.length ∧
      ∀ (i : Nat) (k : List Key) (v : V), kvs[i]? = some (k, v) → ∃ (hi : i < es.size) (q : Addr), es[i].key = .ref q ∧ RelV v es[i].val ∧ H q = some (.tup (k.map kV)) := by
  obtain ⟨hd, _, hs, xs, pr, o', es, ep, ho, hx, hdt, he, _⟩ := I.hok d _ h
  have eo : o = o' := Option.some.inj (hd.symm.trans ho)
  subst eo
  have l1 : es.size = xs.length := size_of_entries he
  have l2 : kvs.length = xs.length := Paired.length pr
  refine ⟨hs, es, ep, hdt, ⟨o, ho, hx, hdt⟩, by omega, fun i k v e => ?_⟩
  obtain ⟨b, hb, e1, e2, e3⟩ := paired_get pr e
  have q := entry_at he i
  rw [hb] at q
  have hi : i < es.size := (Array.getElem?_eq_some_iff.mp q).1
  have ei : es[i] = entryOfKey (tupleKind (mixKind X.prog X.w)) b := (Array.getElem?_eq_some_iff.mp q).2
  exact ⟨hi, b.2.1, by rw [ei]; rfl, by rw [ei]; exact e3, e2⟩
theorem turn_itemsT {P : Program} {w : World} {K : PySem.W.Frag} {d : Addr} {o : Obj} {es : Array DictEntry} {ep : Nat} {kvs : List (List Key × V)} {elts : List Expr} {kk : Nat} {tpos : Pos} (it : Addr) (hod : o.data = .dict es ep) :
    Turn P w K (.Tuple elts kk tpos) (ItI d o kvs) [it] it (fun i h => ∃ ok ov, IsItemIter h it d i kvs.length ep ok ov) where
  mem := by simp
  obj := fun i h st b hb => by
    obtain ⟨ok, ov, e⟩ := st
    have z : b = it := by simpa using hb
    rw [z]
    exact ⟨_, e, fun v q => nomatch q⟩
  keep := fun i h h' st k => by
    obtain ⟨ok, ov, e⟩ := st
    exact ⟨ok, ov, k it (by simp) _ e⟩
  item := by
    intro X hP hw hK hc i pins s σ H E I hf st hg
    subst hP hw hK
    obtain ⟨hd, hi⟩ := hg
    obtain ⟨hs, es', ep', hdt, hm, hsz, ent⟩ := raw_of I hd
    obtain ⟨e1, e2⟩ := dict_ep hod hdt
    subst e1
    subst e2
    obtain ⟨⟨k, v⟩, hkv⟩ : ∃ p, kvs[i]? = some p := ⟨kvs[i], List.getElem?_eq_getElem hi⟩
    obtain ⟨hie, q, hkey, hval, hq⟩ := ent i k v hkv
    obtain ⟨ok, ov, he⟩ := st
    rw [← hsz] at he
    have below : it < s.heap.objs.size := Heap.lt_size he
    refine DT.nextI he hm hie fun h' ho hT hz hk => ?_
    refine ⟨_, rfl, wpAny_letOwnedTupleGo_items (s := { s with heap := h' }) ho fun h'' he' sb => ?_⟩
    have hT2 := (sb.2 _ (Nat.ne_of_gt below)).trans hT
    have new : ObjOk X.prog X.w (upd H s.heap.objs.size (.tup [.ref q, v])) h'' s.heap.objs.size (.tup [.ref q, v]) := ⟨by show 2 ≤ sizeLine; decide, [_, _], .cons hkey (.cons hval .nil), ⟨_, hT2, rfl, _, rfl⟩⟩
    have I1 := I.turnedNew (h' := h'') (t' := s.toks) (ch := [it]) (fun b ob hb z => (sb.2 b (by simpa using hb)).trans (hk b ob (by simpa using hb) z)) hf (Nat.le_refl _) new
    refine ⟨.ref s.heap.objs.size, _, I1, rfl, ⟨_, q, k, v, hkv, hq, rfl, I.hok.fresh (Nat.le_refl _), rfl⟩, ⟨es'[i].key, es'[i].val, ?_⟩, fun b hb => ?_⟩
    · rw [← hsz]
      exact he'
    · have z : b = it := by simpa using hb
      rw [z, upd_ne (Nat.ne_of_lt below)]
      exact (hf it (by simp)).1
  done := by
    intro X hP hw hK hc i pins s σ H E I hf st hg
    subst hP hw hK
    obtain ⟨hd, hi⟩ := hg
    obtain ⟨f0, f1, f2, f3, f4, f5⟩ := hf it (by simp)
    obtain ⟨hs, es', ep', hdt, hm, hsz, ent⟩ := raw_of I hd
    obtain ⟨rfl, rfl⟩ := dict_ep hod hdt
    obtain ⟨ok, ov, he⟩ := st
    rw [← hsz] at he
    exact DT.endI (I.ok.hd hc) he hm (by omega) fun h' eb => ⟨rfl, I.turned (t' := s.toks) (fun b ob hb z => eb b ob hb z) f0 f1 f3 f4 f5⟩
  self := fun A i s Q E st h => let ⟨_, _, e⟩ := st; PySem.W.kcp_self e h
def iItemsT (td : TE) : TI := fun σ H R => td σ H fun x H1 => ∃ d o kvs, x = .ref d ∧ H1 d = some (.frz o (.dT kvs)) ∧ R (ItI d o kvs) H1
theorem pi_itemsT {X : Cx} {e : Expr} {td : TE} {apos cpos tpos : Pos} {elts : List Expr} {kk : Nat} (he : PE X e td) (hbase : attributeBase e "items" X.env (eval e X.env) = eval e X.env := by rfl) (hline : (apos.endLine == cpos.line) = true := by rfl) :
    PI X (.Tuple elts kk tpos) (.Call (.Attribute e "items" apos) [] [] cpos) (iItemsT td) := by
  refine ⟨fun pins s σ H R I h => ?_⟩
  let Post : V → Hp → Prop := fun x H1 => ∃ d o kvs, x = .ref d ∧ H1 d = some (.frz o (.dT kvs)) ∧ R (ItI d o kvs) H1
  have h1 : td σ H Post := h
  refine wpAny_Call_method (T := "dict") (id := "dict.items") hbase rfl hline PySem.F.plainAttrs_dict PySem.F.slot_dict_items PySem.F.type_dict_items (thn (he.run pins s σ H Post I h1) fun u s1 hh => ?_)
  obtain ⟨x, H1, I1, rx, d, o, kvs, ex, hd, q⟩ := hh
  subst ex
  obtain rfl : u = Value.ref d := rx
  obtain ⟨hs, es, ep, hdt, hm, hsz, ent⟩ := raw_of I1 hd
  obtain ⟨ob, h2, h3, h4⟩ := id hm
  refine ⟨hm.typeIs, fun b z => ?_, ?_⟩
  · injection z with z
    subst z
    exact ⟨ob, h2, h3.2.1⟩
  · have I2 : Inv X pins σ H1 { s1 with heap := s1.heap.push { cls := .type "dict_items", data := .fields #[.ref d] } } := I1.kept (t' := s1.toks) fun b ob z => Heap.get?_push_of_some _ z
    have fin : wpAny (model X.prog X.w) X.A (pyIter (.ref s1.heap.objs.size)) (PIE X pins σ (.Tuple elts kk tpos) R) X.xe { s1 with heap := s1.heap.push { cls := .type "dict_items", data := .fields #[.ref d] } } := by
      refine DT.iterI ⟨_, Heap.get?_push_size _ rfl, rfl, rfl⟩ (hm.push _) (pi_one (tk := s1.toks) I2 _ (turn_itemsT _ hdt) ⟨.none, .none, ?_⟩ q)
      rw [← hsz]
      exact Heap.get?_push_size _ rfl
    show wpAny _ _ (callWith cpos (.builtin "dict.items") [.ref d] [] []) _ X.xe s1
    exact method_meetsIn PySem.F.slot_dict_items PySem.F.entry_dict_items rfl (PySem.evalArgs_none ⟨rfl, hm.typeIs, PySem.F.args_dict_items_1 _, _, DT.meetsItems (es := es) (ep := ep) hs, ⟨hm, fin⟩⟩)
/-- over the dict, which the body leaves as it is -/
theorem for_itemsT {d : Addr} {o : Obj} {kvs : List (List Key × V)} {g : TG} {tb : TS} {D : Ends} {σ : L2.St} {H : Hp} (Pv : Nat → L2.St → Hp → Prop) (h0 : Pv 0 σ H) (hl : ∀ i σ H, i ≤ kvs.length → Pv i σ H → H d = some (.frz o (.dT kvs)))
    (hs : ∀ i k v q σ H T, kvs[i]? = some (k, v) → Pv i σ H → H q = some (.tup (k.map kV)) → H T = none → g (.ref T) σ (upd H T (.tup [.ref q, v])) fun σ2 H2 => tb { D with nx := Pv (i + 1), ct := Pv (i + 1), bk := D.nx } σ2 H2) (hd : ∀ σ H, Pv kvs.length σ H → D.nx σ H) :
    ∃ W : Nat → Nat → L2.St → Hp → Prop, (∃ m, W 0 m σ H) ∧ ∀ i m σ H, W i m σ H →
      ((ItI d o kvs).stop i H ∧ D.nx σ H) ∨ ((ItI d o kvs).go i H ∧ ∃ N : L2.St → Hp → Prop, (∀ σ' H', N σ' H' → ∃ m', m' < m ∧ W (i + 1) m' σ' H') ∧ ∀ x H', (ItI d o kvs).yld i H x H' → g x σ H' fun σ2 H2 => tb { D with nx := N, ct := N, bk := D.nx } σ2 H2) := by
  refine ⟨fun i m σ H => m = kvs.length - i ∧ i ≤ kvs.length ∧ Pv i σ H, ⟨kvs.length, by simp, Nat.zero_le _, h0⟩, fun i m σ H hw => ?_⟩
  obtain ⟨hm, hi, p⟩ := hw
  have q := hl i σ H hi p
  rcases Nat.lt_or_ge i kvs.length with lt | ge
  · refine .inr ⟨⟨q, lt⟩, Pv (i + 1), fun σ' H' p' => ⟨kvs.length - (i + 1), by omega, rfl, lt, p'⟩, fun x H' y => ?_⟩
    obtain ⟨T, qa, k, v, e1, e2, e3, e4, e5⟩ := y
    subst e3
    subst e5
    exact hs i k v qa σ H T e1 p e2 e4
  · have e : i = kvs.length := Nat.le_antisymm hi ge
    subst e
    exact .inl ⟨⟨q, Nat.le_refl _⟩, hd σ H p⟩
end SayI
set_option Elab.async false
set_option linter.all false
set_option maxRecDepth 100000
set_option maxHeartbeats 4000000
/-! sorted(xs, key=lambda p: ..), the lambda of one parameter that gives an attribute of it, a tuple of attributes, or -len of an attribute's attribute. -/
namespace SayS
open PySem PySem.Spec PyProof.Rows L2 LamX
/-- a value as a part of a key -/
def IsData (H : Hp) (v : V) (k : PyData) : Prop := (∃ i, v = .int i ∧ k = .int i) ∨ ∃ (r : Addr) (xs : List Int), v = .ref r ∧ H r = some (.tup (xs.map V.int)) ∧ k = .tuple (xs.map .int)
theorem reads_ints {h : Heap} : ∀ {xs : List Int} {us : List Value}, Vals (xs.map V.int) us → ReadsAll h us (xs.map .int) []
  | [], _, .nil => .nil
  | x :: xs, _, .cons r rs => by
    obtain ⟨t, rfl⟩ := r
    have := ReadsAll.cons (Reads.int (h := h) x t) (reads_ints (xs := xs) rs)
    exact this
theorem IsData.reads {P : Program} {w : World} {H : Hp} {h : Heap} {v : V} {k : PyData} {u : Value} (d : IsData H v k) (ok : HOk P w H h) (r : RelV v u) : Reads h u k [] := by
  rcases d with ⟨i, rfl, rfl⟩ | ⟨p, xs, rfl, e, rfl⟩
  · obtain ⟨t, rfl⟩ := r
    exact .int i t
  · obtain rfl := (show u = Value.ref p from r)
    obtain ⟨_, its, rv, o, h1, h2, n, h3⟩ := (show ObjOk P w H h p (.tup (xs.map V.int)) from ok p _ e)
    exact .tuple h1 h2 h3 (by simpa using reads_ints rv)
theorem depth_ints : ∀ xs : List Int, PyData.depthAll (xs.map .int) = 0
  | [] => rfl
  | x :: xs => by
    rw [List.map_cons, PyData.depthAll, depth_ints xs]
    rfl
/-! ### the lambda called on one value, all else kept -/
section
variable {P : Program} {w : World} {A : Around} {s : Shared}
theorem key_call {f c' : Addr} {q : Str} {params : Arguments} {body : Expr} {scope : Scope} {pm ctv : Value} {p : Str} {u : Value} {k : PyData}
    (hf : s.heap.get? f = some (PySem.W.kla_obj "<lambda>" q params body scope [] pm c' ctv)) (hc : s.heap.CodeRec (.ref c') q) (hroom : A.depth < recursionLimit) (lim : s.heap.NoLimit)
    (hbind : bindArgs (PySem.W.kla_fn "<lambda>" q params body scope [] pm (.ref c') ctv) ⟨[u], []⟩ = pure [(p, u)]) (hk : scope.kind = .function) (hco : scope.isCoroutine = false) (hgen : scope.isGenerator = false)
    (hloc : scope.names.lookup p = some .local) (hnc : ∀ x ∈ scope.names, x.2 ≠ .cell)
    (hbody : ∀ (h₁ : Heap) (L tk : Nat), h₁.Ns L (fun y => ([(p, u)] : List (Str × Value)).reverse.lookup y) → (∀ b o, s.heap.get? b = some o → h₁.get? b = some o) →
      wpAny (model P w) (A.deeper (PySem.W.envX q scope L f (.ref c') [])) (eval body (PySem.W.envX q scope L f (.ref c') [])) (PySem.W.KeyPure k { s with heap := h₁, toks := tk }) (fun _ _ => False) { s with heap := h₁, toks := tk }) :
    wpAny (model P w) A (call (.ref f) [u]) (PySem.W.KeyPure k s) (fun _ _ => False) s := by
  refine wpAny_call (PySem.W.kla_callFunE hroom hf rfl hco hgen rfl hc ?_)
  rw [hbind]
  refine wpAny_pure (wpAny_newFunctionEnv hnc (fun y hy => ?_) (fun h₁ hns hsb => ⟨lim.fresh _ hsb, ?_⟩) hk)
  · have e : y = (p, u) := by simpa using hy
    rw [e]
    exact hloc
  · have kp : ∀ b o, s.heap.get? b = some o → h₁.get? b = some o := fun b o e => hsb.extBut b o (Nat.ne_of_lt (Heap.lt_size e)) (Heap.get?_push_of_some _ e)
    show codeAny _ _ (.expr body (PySem.W.envX q scope s.heap.objs.size f (.ref c') [])) _ _
    refine PySem.W.kla_codeExpr (wpAny_mono (hbody h₁ _ _ hns kp) (fun v s' hq => ?_) fun e s' z => z.elim)
    obtain ⟨h', t', e1, k1, r1⟩ := hq
    exact ⟨h', t', e1, fun b o z => k1 b o (kp b o z), r1⟩
/-- what the body gives where the parameter is the instance at a -/
def Keys (P : Program) (w : World) (K : PySem.W.Frag) (mg : Str → Option Value) (base : Heap) (body : Expr) (scope : Scope) (p : Str) (H : Hp) (a : Addr) (k : PyData) : Prop :=
  ∀ (A : Around) (q : Str) (L f : Addr) (cd : Value) (s : Shared), Mod K mg base → (∀ b o, base.get? b = some o → s.heap.get? b = some o) → HOk P w H s.heap → K.In s.heap → s.heap.Ns L (fun y => ([(p, Value.ref a)] : List (Str × Value)).reverse.lookup y) →
    wpAny (model P w) A (eval body (PySem.W.envX q scope L f cd [])) (PySem.W.KeyPure k s) (fun _ _ => False) s
section
variable {K : PySem.W.Frag} {mg : Str → Option Value} {base : Heap} {scope : Scope} {p : Str} {H : Hp} {a C dx : Addr} {fs : List (Str × V)}
theorem attr_pure {q fld : Str} {L f : Addr} {cd : Value} {p1 p2 : Pos} {v : V} {E : Value → Shared → Prop} {Q : Value → Shared → Prop} (hk : scope.kind = .function) (hloc : scope.names.lookup p = some .local) (hd : (p == ("__debug__" : Str)) = false)
    (ok : HOk P w H s.heap) (KX : K.In s.heap) (hn : s.heap.Ns L (fun y => ([(p, Value.ref a)] : List (Str × Value)).reverse.lookup y)) (e : H a = some (.ins C dx fs)) (c : Cls K C) (n : NoAttr K C fld) (l : fs.lookup fld = some v)
    (hb : ∀ env, attributeBase (.Name p p1) fld env (eval (.Name p p1) env) = eval (.Name p p1) env) (h : ∀ u, RelV v u → Q u { s with toks := s.toks + 1 }) :
    wpAny (model P w) A (eval (.Attribute (.Name p p1) fld p2) (PySem.W.envX q scope L f cd [])) Q E s := by
  refine attr_of (hb _) ?_
  have hm : (fun y => ([(p, Value.ref a)] : List (Str × Value)).reverse.lookup y) p = some (Value.ref a) := by
    show List.lookup p [(p, Value.ref a)] = _
    simp [List.lookup]
  refine wpAny_Name (wpAny_loadName_local (env := PySem.W.envX q scope L f cd []) hk hloc hn hm ?_) hd
  obtain ⟨mA, O, r, _, _, _⟩ := ins_get ok e
  obtain ⟨u, hu, ru⟩ := RelO.some_of (v := v) (o := mA fld) (by rw [← l]; exact r fld)
  exact get_map KX O (c.get fld) c.hd n hu (handed_of ru) (h u ru)
theorem keys_attr {fld : Str} {p1 p2 : Pos} {v : V} {k : PyData} (hk : scope.kind = .function) (hloc : scope.names.lookup p = some .local) (hd : (p == ("__debug__" : Str)) = false) (e : H a = some (.ins C dx fs)) (c : Cls K C) (n : NoAttr K C fld)
    (l : fs.lookup fld = some v) (d : IsData H v k) (hb : ∀ env, attributeBase (.Name p p1) fld env (eval (.Name p p1) env) = eval (.Name p p1) env) : Keys P w K mg base (.Attribute (.Name p p1) fld p2) scope p H a k := by
  intro A q L f cd s _ _ ok KX hn
  refine attr_pure hk hloc hd ok KX hn e c n l hb fun u ru => ⟨s.heap, s.toks + 1, rfl, fun _ _ z => z, d.reads ok ru⟩
/-- the attributes of a tuple -/
def attrs (p : Str) (l : List (Str × Pos × Pos)) : List Expr := l.map fun x => .Attribute (.Name p x.2.1) x.1 x.2.2
theorem attrs_pure {q : Str} {L f : Addr} {cd : Value} {E : Value → Shared → Prop} {pos : Pos} (hk : scope.kind = .function) (hloc : scope.names.lookup p = some .local) (hd : (p == ("__debug__" : Str)) = false)
    (e : H a = some (.ins C dx fs)) (c : Cls K C) (hb : ∀ p1 fld env, attributeBase (.Name p p1) fld env (eval (.Name p p1) env) = eval (.Name p p1) env) :
    ∀ (l : List (Str × Pos × Pos)) (s : Shared) (ks : List PyData) (Q : List Value → Shared → Prop), HOk P w H s.heap → K.In s.heap → s.heap.Ns L (fun y => ([(p, Value.ref a)] : List (Str × Value)).reverse.lookup y) →
      Paired (fun (x : Str × Pos × Pos) k => NoAttr K C x.1 ∧ ∃ v, fs.lookup x.1 = some v ∧ IsData H v k) l ks → (∀ us tk, us.length = ks.length → ReadsAll s.heap us ks [] → Q us { s with toks := tk }) →
      wpAny (model P w) A (spliced (backTo pos (starEach (attrs p l) (PySem.W.envX q scope L f cd [])))) Q E s
  | [], s, _, Q, _, _, _, .nil, h => Calls.spliced_nil (h [] s.toks rfl .nil)
  | x :: l, s, _, Q, ok, KX, hn, .cons (b := k) (l₂ := ks) ⟨hno, v, lv, dv⟩ r, h => by
    show wpAny _ _ (spliced ((false, eval (.Attribute (.Name p x.2.1) x.1 x.2.2) (PySem.W.envX q scope L f cd [])) :: backTo pos (starEach (attrs p l) (PySem.W.envX q scope L f cd [])))) _ _ _
    refine Calls.spliced_cons (attr_pure hk hloc hd ok KX hn e c hno lv (hb _ _) fun u ru => ?_)
    refine attrs_pure hk hloc hd e c hb l { s with toks := s.toks + 1 } ks _ ok KX hn r fun us tk hl ra => h (u :: us) tk (by simp [hl]) ?_
    have := ReadsAll.cons (dv.reads ok ru) ra
    exact this
theorem keys_tuple {l : List (Str × Pos × Pos)} {ks : List PyData} {x1} {pos : Pos} (hk : scope.kind = .function) (hloc : scope.names.lookup p = some .local) (hd : (p == ("__debug__" : Str)) = false) (hl : l.length ≤ 100)
    (e : H a = some (.ins C dx fs)) (c : Cls K C) (hb : ∀ p1 fld env, attributeBase (.Name p p1) fld env (eval (.Name p p1) env) = eval (.Name p p1) env)
    (r : Paired (fun (x : Str × Pos × Pos) k => NoAttr K C x.1 ∧ ∃ v, fs.lookup x.1 = some v ∧ IsData H v k) l ks) : Keys P w K mg base (.Tuple (attrs p l) x1 pos) scope p H a (.tuple ks) := by
  intro A q L f cd s _ _ ok KX hn
  refine wpAny_Tuple_spliced (attrs_pure hk hloc hd e c hb l s ks _ ok KX hn r fun us tk hlen ra => ⟨?_, ?_⟩)
  · rw [hlen, ← Paired.length r, sizeLine_eq]
    omega
  · refine ⟨_, tk, rfl, fun b o z => Heap.get?_push_of_some _ z, ?_⟩
    exact .tuple (Heap.get?_push_size _ rfl) rfl rfl (by simpa using PyProof.Rows.ReadsAll.keeps (fun b o z => Heap.get?_push_of_some _ z) ra)
/-- -len(p.f1.f2), a tuple's -/
theorem keys_negLen {f1 f2 : Str} {p0 p1 p2 p3 p4 p5 : Pos} {a2 t C2 dx2 : Addr} {fs2 : List (Str × V)} {xs : List V} (hk : scope.kind = .function) (hloc : scope.names.lookup p = some .local) (hd : (p == ("__debug__" : Str)) = false)
    (e : H a = some (.ins C dx fs)) (c : Cls K C) (n : NoAttr K C f1) (l : fs.lookup f1 = some (.ref a2)) (e2 : H a2 = some (.ins C2 dx2 fs2)) (c2 : Cls K C2) (n2 : NoAttr K C2 f2) (l2 : fs2.lookup f2 = some (.ref t)) (h3 : H t = some (.tup xs))
    (hnl : scope.names.lookup ("len" : Str) = some .globalImplicit) (hml : mg "len" = none)
    (hb : ∀ env, attributeBase (.Name p p0) f1 env (eval (.Name p p0) env) = eval (.Name p p0) env)
    (hb2 : ∀ env, attributeBase (.Attribute (.Name p p0) f1 p1) f2 env (eval (.Attribute (.Name p p0) f1 p1) env) = eval (.Attribute (.Name p p0) f1 p1) env) :
    Keys P w K mg base (.UnaryOp .USub (.Call (.Name "len" p3) [.Attribute (.Attribute (.Name p p0) f1 p1) f2 p2] [] p4) p5) scope p H a (.int (-((xs.length : Nat) : Int))) := by
  intro A q L f cd s M bk ok KX hn
  refine UnaryOp_ ?_
  obtain ⟨mb, h1, h2⟩ := M.blt
  refine wpAny_Call_Name_kw (Calls.Name_function_global (env := PySem.W.envX q scope L f cd []) hk hnl (Calls.loadGlobal_builtin (v := .builtin "len") (M.glob.keeps bk) hml (h1.keeps bk) ((h2 "len" (by decide)).trans (by first | rfl | decide +kernel)) ?_))
  refine PyProof.Rows.callWith_builtin1 ?_ rfl rfl
  show wpAny _ _ (spliced ((false, eval (.Attribute (.Attribute (.Name p p0) f1 p1) f2 p2) (PySem.W.envX q scope L f cd [])) :: [])) _ _ _
  refine Calls.spliced_cons (attr_of (hb2 _) (attr_pure hk hloc hd ok KX hn e c n l hb fun u ru => ?_))
  obtain rfl := (show u = Value.ref a2 from ru)
  obtain ⟨mA, O, r, _, _, _⟩ := ins_get ok e2
  obtain ⟨u, hu, ru2⟩ := RelO.some_of (v := V.ref t) (o := mA f2) (by rw [← l2]; exact r f2)
  obtain rfl := (show u = Value.ref t from ru2)
  refine get_map KX O (c2.get f2) c2.hd n2 hu (handed_of (v := V.ref t) rfl) (Calls.spliced_nil ?_)
  obtain ⟨hz, its, rv, ht⟩ := (show ObjOk P w H s.heap t (.tup xs) from ok t _ h3)
  have hlen : its.toArray.size = xs.length := by rw [List.size_toArray]; exact rv.length.symm
  have hl63 := line63
  refine PyProof.Rows.len_tuple (s := { s with toks := s.toks + 1 + 1 }) ht (by rw [hlen]; omega) ?_
  rw [hlen]
  exact neg_int ⟨s.heap, _, rfl, fun _ _ z => z, .int _ _⟩
end
end
/-! ### sorted(e, key=lambda p: body) -/
def tSortLam (P : Program) (w : World) (K : PySem.W.Frag) (mg : Str → Option Value) (base : Heap) (T : List (Addr × Str)) (body : Expr) (scope : Scope) (p : Str) (te : TE) : TE := fun σ H Q => te σ H fun x H1 => Tabs T H1 ∧ ∀ H2, ExtN H1 H2 → Tabs T H2 →
  ∃ (β : Type) (a : Addr) (bs : List β) (ad : β → Addr) (k : β → PyData), x = .ref a ∧ SqL K H2 a (bs.map fun b => V.ref (ad b)) ∧ PySem.W.AllAlike (bs.map k) ∧ PySem.W.Sortable (bs.map k) ∧ (∀ b ∈ bs, (k b).depth ≤ 20) ∧
    (∀ b ∈ bs, Keys P w K mg base body scope p H2 (ad b) (k b)) ∧ ∀ l, H2 l = none → Q (.ref l) (upd H2 l (.lst ((bs.mergeSort (PySem.W.dataLe false k)).map fun b => V.ref (ad b))))
section
variable {X : Cx} {params : Arguments} {body e : Expr} {scope : Scope} {lpos kpos pos : Pos} {np : Pos} {T : List (Addr × Str)} {c P : Addr} {p : Str} {te : TE} {n : Nat}
theorem pe_sortLam (hc : X.calm = true) (hr : Room (n + 4) X.A) (hg : Gl X "sorted") (hms : X.mg "sorted" = none) (he : PE X e te) (TB : TabB X.base X.mg c P) (hcode : X.env.code = .ref c) (hm : (P, X.env.qual ++ "<lambda>") ∈ T)
    (hu : ∀ p ∈ T, p.1 = P → p.2 = X.env.qual ++ "<lambda>") (hdef : defaultsOf params X.env = ([], [])) (hcl : cloFrom X.env.cells scope.names [] = []) (hfree : ∀ y ∈ scope.names, y.2 ≠ .free)
    (hbind : ∀ (q : Str) (pm cv ctv u : Value), bindArgs (PySem.W.kla_fn "<lambda>" q params body scope [] pm cv ctv) ⟨[u], []⟩ = pure [(p, u)]) (hk : scope.kind = .function) (hco : scope.isCoroutine = false) (hgen : scope.isGenerator = false)
    (hloc : scope.names.lookup p = some .local) (hnc : ∀ x ∈ scope.names, x.2 ≠ .cell)
    (hse : starEach [e] X.env = (false, eval e X.env) :: starEach [] X.env := by rfl) (hst : backTo pos (starEach [e] X.env) = (false, eval e X.env) :: backTo pos (starEach [] X.env) := by rfl) (hpl : (backTo pos (starEach [e] X.env)).any (·.1) = false := by rfl) :
    PE X (.Call (.Name "sorted" np) [e] [⟨some "key", .Lambda params body scope lpos, kpos⟩] pos) (tSortLam X.prog X.w X.K X.mg X.base T body scope p te) := by
  refine ⟨fun pins s σ H Q I h => ?_⟩
  refine wpAny_Call_Name_kw (ld_blt I hg hms (u := .builtin "sorted") (by first | rfl | decide +kernel) ?_ (by decide) (by decide))
  let Post : V → Hp → Prop := fun x H1 => Tabs T H1 ∧ ∀ H2, ExtN H1 H2 → Tabs T H2 → ∃ (β : Type) (a : Addr) (bs : List β) (ad : β → Addr) (k : β → PyData), x = .ref a ∧ SqL X.K H2 a (bs.map fun b => V.ref (ad b)) ∧ PySem.W.AllAlike (bs.map k) ∧ PySem.W.Sortable (bs.map k) ∧
    (∀ b ∈ bs, (k b).depth ≤ 20) ∧ (∀ b ∈ bs, Keys X.prog X.w X.K X.mg X.base body scope p H2 (ad b) (k b)) ∧ ∀ l, H2 l = none → Q (.ref l) (upd H2 l (.lst ((bs.mergeSort (PySem.W.dataLe false k)).map fun b => V.ref (ad b))))
  have ha : PA X [e] (tCons te tNil) := pa_cons he pa_nil hse
  refine PyProof.Rows.callWith_kw (thn (ha.run pos pins s σ H (fun vs H1 => match vs with
    | [x] => Post x H1
    | _ => False) I h) fun us s1 hh => ?_) hst hpl (by rfl) (by rfl)
  obtain ⟨vs, H1, I1, rv, hx⟩ := hh
  match vs, rv, hx with
  | [x], .cons (b := u) ru .nil, hx =>
    obtain ⟨hT, hx⟩ := (show Post x H1 from hx)
    show wpAny _ _ (evalAll [do let v ← eval (.Lambda params body scope lpos) X.env; standAt pos; pure v]) _ _ s1
    refine wpAny_evalAll_cons (wpAny_bind (lam_make2 I1 TB hcode hm hu hT hdef (fun y hy e => absurd e (hfree y hy)) fun f c' pm ctv H2 s2 I2 eN T2 hf hfn hfr hco2 => wpAny_bind (wpAny_standAt (wpAny_pure (wpAny_evalAll_nil ?_)))))
    rw [hcl] at hf
    obtain ⟨β, a, bs, ad, k, ex, hs, hal, hso, hdp, hke, hq⟩ := hx H2 eN T2
    subst ex
    obtain rfl := (show u = Value.ref a from ru)
    obtain ⟨its, rvs, hl, hz⟩ := I2.list hs
    have each : PySem.W.EachIs (fun (v : Value) (b : β) => v = Value.ref (ad b)) its bs := by
      have key : ∀ (bs : List β) (its : List Value), Vals (bs.map fun b => V.ref (ad b)) its → PySem.W.EachIs (fun (v : Value) (b : β) => v = Value.ref (ad b)) its bs := by
        intro bs
        induction bs with
        | nil => intro its r; cases r; exact .nil
        | cons b bs ih => intro its r; cases r with | cons r1 r2 => exact .cons r1 (ih _ r2)
      exact key bs its rvs
    have hL : bs.length ≤ sizeLine := by
      rw [List.length_map] at hz
      exact hz
    obtain ⟨⟨oc, vsc, tc, hoc, hdc, hvc⟩, _, _⟩ := I2.hok c' _ hco2
    show wpAny _ _ (call (.builtin "sorted") [Value.ref a] [(PySem.Str.ofString "key", Value.ref f)]) _ _ s2
    have un := hr.units
    refine PySem.W.sorted_key_data (b := false) k hl.isList each hal hso hL (fun b hb => by have := hdp b hb; omega) (PyProof.Rows.ksk_s1 _ _) (fun _ => PyProof.Rows.ksk_l1 _ _) (fun _ => PyProof.Rows.ksk_t1 _ _) (fun v b hv hb h tk kp => ?_) fun out cc h' tk kp fresh hD hlen eo => ?_
    · subst hv
      have hr2 : Room (n + 2) X.A.in1.in1 := hr.in1.in1
      refine key_call (s := { s2 with heap := h, toks := tk }) (f := f) (c' := c') (p := p) (kp _ _ hf) ⟨c', oc, vsc, tc, rfl, kp _ _ hoc, hdc, hvc⟩ hr2.depth (I2.nolimit.keeps kp) (hbind _ _ _ _ _) hk hco hgen hloc hnc fun h₁ L tk' hns kp' => ?_
      have kk : ∀ b o, s2.heap.get? b = some o → h₁.get? b = some o := fun b o z => kp' b o (kp b o z)
      exact hke b hb _ _ L f _ { s2 with heap := h₁, toks := tk' } I2.mod (fun b' o' z => kk _ _ (I2.bk _ _ z)) (I2.hok.kept kk) (I2.kIn.keeps kk) hns
    · have eo2 : Vals ((bs.mergeSort (PySem.W.dataLe false k)).map fun b => V.ref (ad b)) out := by
        have key : ∀ (bs : List β) (its : List Value), PySem.W.EachIs (fun (v : Value) (b : β) => v = Value.ref (ad b)) its bs → Vals (bs.map fun b => V.ref (ad b)) its := by
          intro bs
          induction bs with
          | nil => intro its r; cases r; exact .nil
          | cons b bs ih => intro its r; cases r with | cons r1 r2 => exact .cons r1 (ih _ r2)
        exact key _ _ eo
      refine ⟨.ref _, _, I2.laid (a := s2.heap.objs.size + 1) (o := .lst ((bs.mergeSort (PySem.W.dataLe false k)).map fun b => V.ref (ad b))) (t' := tk) kp (Nat.le_succ _) ⟨?_, out, cc, eo2, hD⟩, rfl, hq _ (I2.hok.fresh (Nat.le_succ _))⟩
      rw [List.length_map, List.length_mergeSort]
      exact hL
end
end SayS
set_option Elab.async false
set_option linter.all false
set_option maxRecDepth 100000
set_option maxHeartbeats 4000000
/-! The end of a specification's row where defs make lambdas: their code objects' tables are tracked. HandS.Spec tells it without tables, HandS.EndTab with tables for a law. -/
namespace SayT
open PySem PySem.Spec PyProof.Rows L2 LamX
open PySem.W (WData Codec OpenSpec Well WellAll ReadsW ReadsAllW)
/-- the tables among what is tracked of the arguments -/
def withT (ts : List Addr) (H : Hp) : Hp := fun b => if b ∈ ts then some (.tbl #[]) else H b
theorem withT_in {ts : List Addr} {H : Hp} {b : Addr} (h : b ∈ ts) : withT ts H b = some (.tbl #[]) := if_pos h
theorem withT_out {ts : List Addr} {H : Hp} {b : Addr} (h : b ∉ ts) : withT ts H b = H b := if_neg h
theorem sqL_withT {K : PySem.W.Frag} {ts : List Addr} {H : Hp} {a : Addr} {xs : List V} (n : ∀ b ∈ ts, H b = none) (h : SqL K H a xs) : SqL K (withT ts H) a xs := by
  rcases h with (e | ⟨o, e⟩) | h
  · exact .inl (.inl ((withT_out fun z => by rw [n a z] at e; cases e).trans e))
  · exact .inl (.inr ⟨o, (withT_out fun z => by rw [n a z] at e; cases e).trans e⟩)
  · exact .inr h
theorem sqT_withT {K : PySem.W.Frag} {ts : List Addr} {H : Hp} {a : Addr} {xs : List V} (n : ∀ b ∈ ts, H b = none) (h : SqT K H a xs) : SqT K (withT ts H) a xs := by
  rcases h with (e | ⟨o, e⟩) | h
  · exact .inl (.inl ((withT_out fun z => by rw [n a z] at e; cases e).trans e))
  · exact .inl (.inr ⟨o, (withT_out fun z => by rw [n a z] at e; cases e).trans e⟩)
  · exact .inr h
mutual
theorem dw_withT {K : PySem.W.Frag} {ts : List Addr} {H : Hp} (n : ∀ b ∈ ts, H b = none) : ∀ {v : V} {d : WData}, Dw K H v d → Dw K (withT ts H) v d
  | _, _, .non => .non
  | _, _, .bl b => .bl b
  | _, _, .int i => .int i
  | _, _, .str x => .str x
  | _, _, .byt b => .byt b
  | _, _, .lst h hs => .lst (sqL_withT n h) (dws_withT n hs)
  | _, _, .tup h hs => .tup (sqT_withT n h) (dws_withT n hs)
theorem dws_withT {K : PySem.W.Frag} {ts : List Addr} {H : Hp} (n : ∀ b ∈ ts, H b = none) : ∀ {vs : List V} {ds : List WData}, DwAll K H vs ds → DwAll K (withT ts H) vs ds
  | _, _, .nil => .nil
  | _, _, .cons h hs => .cons (dw_withT n h) (dws_withT n hs)
end
theorem call_tables {P : Program} {w : World} {K : PySem.W.Frag} {mg mb : Str → Option Value} {CX : CXT} {k : Nat} {fa : Addr} {cs : List (Addr × Addr)} {fd : FuncData} {ps : List Str} {sp : Sp} {s₁ : Shared} {vals : List Value} {ds : List WData} {R : PySem.W.WRecords}
    {cl : Str → Option Addr} {d0 : WData} (KX : K.In s₁.heap) (hns : s₁.heap.Ns mainGlobals mg) (hb : s₁.heap.Ns builtinsNs mb) (hbb : ∀ x : Str, x ≠ "__name__" → mb x = bootBuiltins x) (hlim : s₁.heap.NoLimit) (hg : s₁.gens = #[])
    (hT : ∀ p ∈ cs, s₁.heap.get? p.2 = some { cls := .none, data := .fields #[] }) (nT : ∀ p ∈ cs, K.lookup p.2 = none) (C : ∀ p ∈ cs, PySem.W.CodeHd s₁.heap p.1 p.2)
    (hbm : ∃ (bm : Addr) (ob : Obj), mg "__builtins__" = some (.ref bm) ∧ bm ≠ builtinsNs ∧ s₁.heap.get? bm = some ob ∧ ob.cls = .type "module" ∧ ob.dict = some builtinsNs ∧ ob.data = .plain)
    (hwl : WellAll w.params s₁.heap vals ds) (hpl : plWs ds = true) (hwt : ∀ d ∈ ds, d.weight ≤ 1048576) (hr : Room k callerA)
    (F : ∀ base : Heap, K.In base → base.Ns mainGlobals mg → (∀ p ∈ cs, TabB base mg p.1 p.2) → FnOk P w K mg base CX k fa fd ps sp) (hbind : ∀ (s : Shared) (us : List Value), us.length = ps.length → BindsTo s fd ⟨us, []⟩ (ps.zip us)) (hlen : ds.length = ps.length)
    (hsp : ∀ (H : Hp) (xs : List V), (∀ p ∈ cs, H p.2 = some (.tbl #[])) → DwAll K H xs ds → sp xs H (fun v H' => Dw K H' v d0) fun _ _ _ => False)
    (hCX : ∀ H e s', CX [] H s₁ (fun _ _ _ => False) e s' → False) :
    codeAny (model P w) callerA (.call (.ref fa) ⟨vals, []⟩) (fun r s' => ∃ u as, r = .ok (.ret u) ∧ ReadsW R cl s'.heap u d0 as ∧ OldK s₁.heap s'.heap ∧ s'.os = s₁.os ∧ AllBare s'.gens) s₁ := by
  obtain ⟨A, ho, ar⟩ := area_all ds vals hwl hpl hwt
  have only : OnlyF (argH K s₁.heap A) := argH_only ar
  have ok0 : HOk P w (argH K s₁.heap A) s₁.heap := argH_ok ar
  have data0 := dw_all KX ar ds vals hwl hpl ho
  have hV := vals_toV ho
  have free0 : ∀ b u, argH K s₁.heap A b = some u → K.lookup b = none ∧ ∃ (c : String) (vs : List Value), s₁.heap.get? b = some { cls := .type c, data := .seq vs.toArray } := fun b u q => by
    obtain ⟨hk, vs, _, _, ⟨e, _⟩ | ⟨e, _⟩⟩ := argH_is ar q
    · exact ⟨hk, _, vs, e⟩
    · exact ⟨hk, _, vs, e⟩
  generalize hH0 : argH K s₁.heap A = H0 at only ok0 data0 free0
  have isT : ∀ b : Addr, b ∈ cs.map (·.2) → s₁.heap.get? b = some { cls := .none, data := .fields #[] } := fun b hb => by
    obtain ⟨p, hp, e⟩ := List.mem_map.mp hb
    rw [← e]
    exact hT p hp
  have apart : ∀ b ∈ cs.map (·.2), H0 b = none := fun b hb => by
    cases q : H0 b with
    | none => rfl
    | some u =>
      obtain ⟨_, c, vs, e⟩ := free0 b u q
      rw [isT b hb] at e
      injection e with e
      have e2 := congrArg Obj.data e
      cases e2
  -- what is tracked: the arguments, the tables
  have tracked : ∀ b u, withT (cs.map (·.2)) H0 b = some u → K.lookup b = none ∧ (b ∈ cs.map (·.2) ∨ H0 b = some u) := fun b u q => by
    by_cases hb : b ∈ cs.map (·.2)
    · obtain ⟨p, hp, e⟩ := List.mem_map.mp hb
      exact ⟨by rw [← e]; exact nT p hp, .inl hb⟩
    · rw [withT_out hb] at q
      exact ⟨(free0 b u q).1, .inr q⟩
  have notDict : ∀ {b : Addr} {o : Obj}, s₁.heap.get? b = some o → (∀ vs n, o.data ≠ .seq vs n) → o.data ≠ .fields #[] → withT (cs.map (·.2)) H0 b = none := fun {b o} e h1 h2 => by
    cases q : withT (cs.map (·.2)) H0 b with
    | none => rfl
    | some u =>
      rcases (tracked b u q).2 with hb | hb
      · rw [isT b hb] at e
        injection e with e
        exact absurd (congrArg Obj.data e.symm) h2
      · obtain ⟨_, c, vs, e2⟩ := free0 b u hb
        rw [e] at e2
        injection e2 with e2
        exact absurd (congrArg Obj.data e2) (h1 _ _)
  have hok : HOk P w (withT (cs.map (·.2)) H0) s₁.heap := fun b u q => by
    by_cases hb : b ∈ cs.map (·.2)
    · rw [withT_in hb] at q
      injection q with q
      subst q
      exact isT b hb
    · rw [withT_out hb] at q
      refine (ok0 b u q).stay (fun _ _ _ z => z) (fun c z => ?_) fun c xs z => ?_
      · rw [withT_out (fun hc => by rw [apart c hc] at z; cases z)]
        exact z
      · rw [withT_out (fun hc => by rw [apart c hc] at z; cases z)]
        exact z
  have data1 := dws_withT (ts := cs.map (·.2)) apart data0
  have hH : ∀ p ∈ cs, withT (cs.map (·.2)) H0 p.2 = some (.tbl #[]) := fun p hp => withT_in (List.mem_map.mpr ⟨p, hp, rfl⟩)
  have hO : ∀ b, withT (cs.map (·.2)) H0 b = none ∨ b ∈ cs.map (·.2) ∨ ∃ o u, withT (cs.map (·.2)) H0 b = some (.frz o u) := fun b => by
    by_cases hb : b ∈ cs.map (·.2)
    · exact .inr (.inl hb)
    · rw [withT_out hb]
      exact (only b).imp id .inr
  generalize withT (cs.map (·.2)) H0 = H at tracked notDict hok data1 hH hO
  have baseOf : ∀ {b : Addr} {o : Obj}, s₁.heap.get? b = some o → H b = none → (hidT s₁.heap H).get? b = some o := fun e n => hidT_get e n
  have isDict : ∀ {b : Addr} {o : Obj} {es : Array DictEntry} {ep : Nat}, s₁.heap.get? b = some o → o.data = .dict es ep → H b = none := fun e d => notDict e (fun vs n z => by rw [d] at z; cases z) (fun z => by rw [d] at z; cases z)
  have nsK : ∀ {b : Addr} {m : Str → Option Value}, s₁.heap.Ns b m → (hidT s₁.heap H).Ns b m := fun ⟨o, es, ep, e, d, r⟩ => ⟨o, es, ep, baseOf e (isDict e d), d, r⟩
  have hKb : K.In (hidT s₁.heap H) := fun b o e => baseOf (KX b o e) (by
    cases q : H b with
    | none => rfl
    | some u =>
      rw [(tracked b u q).1] at e
      cases e)
  have hM : L2.Mod K mg (hidT s₁.heap H) := ⟨hKb, nsK hns, ⟨mb, nsK hb, hbb⟩, let ⟨mc, h1, h2⟩ := hlim; ⟨mc, nsK h1, h2⟩⟩
  have TB : ∀ p ∈ cs, TabB (hidT s₁.heap H) mg p.1 p.2 := fun p hp => by
    have hTp := hT p hp
    refine ⟨?_, ?_, fun z => ?_⟩
    · obtain ⟨o, us, file, tf, flags, tg, inF, text, tt, e1, r1, r2, r3, rest⟩ := C p hp
      refine ⟨o, us, file, tf, flags, tg, inF, text, tt, baseOf e1 (notDict e1 (fun vs n z => ?_) fun z => ?_), r1, r2, r3, rest⟩
      · rw [r2] at z
        cases z
      · rw [r2] at z
        injection z with z
        rw [z] at r3
        simp at r3
    · obtain ⟨bm, ob, b1, b2, b3, b4, b5, b6⟩ := hbm
      have nG : bm ≠ mainGlobals := fun q => by
        obtain ⟨o, es, ep, e, hd, _⟩ := hns
        rw [q, e] at b3
        injection b3 with b3
        rw [b3, b6] at hd
        cases hd
      have nP : bm ≠ p.2 := fun q => by
        rw [q, hTp] at b3
        injection b3 with b3
        rw [← b3] at b6
        cases b6
      exact ⟨bm, ob, b1, b2, nG, nP, baseOf b3 (notDict b3 (fun vs n z => by rw [b6] at z; cases z) fun z => by rw [b6] at z; cases z), b4, b5, b6⟩
    · obtain ⟨o, es, ep, e, hd, _⟩ := hns
      rw [z, hTp] at e
      injection e with e
      rw [← e] at hd
      cases hd
  have e0 : Env0 P w K mg (hidT s₁.heap H) callerA [] s₁ H := ⟨rfl, hM, fun b o e => of_hidT e, Nat.le_of_eq (hidT_size _ _), trivial, fun b hb => absurd (show b ∈ ([] : List Addr) from hb) (by simp), hok, .of_eq hg⟩
  have hl : vals.length = ps.length := (wellAll_len hwl).trans hlen
  refine codeAny_mono ((F _ hKb (nsK hns) TB).run callerA [] s₁ H ⟨vals, []⟩ vals (vals.map toV) _ _ hr e0 (hbind s₁ vals hl) hV (hsp H _ hH data1)) fun r s' x => ?_
  match r, x with
  | .error e, x => exact (hCX H e s' x).elim
  | .ok (.ret u), x =>
    obtain ⟨v, H', os, bare, un, hok', rr, q⟩ := x
    have key : ∀ b o, b ∉ cs.map (·.2) → s₁.heap.get? b = some o → s'.heap.get? b = some o := fun b o nb e => by
      rcases hO b with z | z | ⟨ob, u3, z⟩
      · exact un.keep b o e z (by intro y; exact absurd (show b ∈ ([] : List Addr) from y) (by simp)) (by simp)
      · exact absurd z nb
      · obtain ⟨e1, _⟩ := hok b _ z
        obtain ⟨e2, _⟩ := hok' b _ (un.frzs b ob _ z)
        rw [e] at e1
        rw [e2, e1]
    have grown : ∀ p ∈ cs, ∃ more : Array Value, s'.heap.get? p.2 = some { cls := .none, data := .fields more } := fun p hp => by
      obtain ⟨more, z⟩ := un.tbls p.2 #[] (hH p hp)
      exact ⟨_, hok' p.2 _ z⟩
    have KX' : K.In s'.heap := fun b o e => key b o (fun hb => by
      obtain ⟨p, hp, ep⟩ := List.mem_map.mp hb
      rw [← ep, nT p hp] at e
      cases e) (KX b o e)
    obtain ⟨as, hrd⟩ := Dw.reads (R := R) (cl := cl) hok' KX' d0 v u q rr
    refine ⟨u, as, rfl, hrd, ⟨fun b o e => ?_, fun b o e => ?_⟩, os, bare⟩
    · by_cases hb : b ∈ cs.map (·.2)
      · obtain ⟨p, hp, ep⟩ := List.mem_map.mp hb
        obtain ⟨more, hm⟩ := grown p hp
        rw [← ep] at e ⊢
        rw [hT p hp] at e
        injection e with e
        subst e
        exact .inr (.inl ⟨((C p hp).tab (hT p hp)).isCodeTable, rfl, #[], more, rfl, by rw [Array.empty_append]; exact hm⟩)
      · exact .inl (key b o hb e)
    · by_cases hb : b ∈ cs.map (·.2)
      · obtain ⟨p, hp, ep⟩ := List.mem_map.mp hb
        obtain ⟨more, hm⟩ := grown p hp
        rw [← ep]
        exact ⟨_, hm⟩
      · exact ⟨o, key b o hb e⟩
/-- the row: cs, the code objects whose defs make lambdas, with their tables -/
theorem walk_tables {r : OpenSpec} {k : Nat} {q : Program} {loose : List Str} {XP : (Str → Option Value) → Heap → Prop} {YP : World → Heap → Prop} {d : DefRec} {K : Params → PySem.W.Frag} {CX : World → CXT} {ps : List Str} {sp : World → Sp} {cs : List (Addr × Addr)}
    (hwell : r.wellSaid = true) (hdf : d.params.defaults = []) (hlen : r.args.length = ps.length) (hr : Room k callerA)
    (hY : ∀ (w : World) (h : Heap), YP w h → (K w.params).In h) (hT : ∀ (w : World) (mean : ExcName → Option Value) (mg mb : Str → Option Value) (h : Heap), YP w h → Top q (PySem.W.looseW q loose) mean mg mb h → ∀ p ∈ cs, h.get? p.2 = some { cls := .none, data := .fields #[] })
    (nT : ∀ (w : World), ∀ p ∈ cs, (K w.params).lookup p.2 = none) (hC : ∀ (w : World), ∀ p ∈ cs, PySem.W.codeHdIn (K w.params) p.1 p.2 = true)
    (F : ∀ (w : World) (mg : Str → Option Value) (fa : Addr) (h : Heap), YP w h → (K w.params).In h → h.Ns mainGlobals mg → mg d.name = some (.ref fa) →
      ∃ fd : FuncData, (∀ (s : Shared) (us : List Value), us.length = ps.length → BindsTo s fd ⟨us, []⟩ (ps.zip us)) ∧
        ∀ base : Heap, (K w.params).In base → base.Ns mainGlobals mg → (∀ p ∈ cs, TabB base mg p.1 p.2) → FnOk r.prog w (K w.params) mg base (CX w) k fa fd ps (sp w))
    (hsp : ∀ (w : World) (H : Hp) (xs : List V) (a : Codec.denoteAll r.args), (∀ p ∈ cs, H p.2 = some (.tbl #[])) → Codec.withinAll r.args a = true → Codec.app r.args r.asked a = true → DwAll (K w.params) H xs (Codec.encAll r.args a) →
      sp w xs H (fun v H' => Dw (K w.params) H' v (r.ret.enc (Codec.app r.args r.f a))) fun _ _ _ => False)
    (hCX : ∀ (w : World) (H : Hp) (s : Shared) (e : Value) (s' : Shared), CX w [] H s (fun _ _ _ => False) e s' → False) :
    PySem.W.WalkOS q loose XP YP r d [] (fun f vs => PySem.call f vs) := by
  intro w s₀ s₁ mg mb G Y fa o pm cd doc dV kV ho hd hcd hD hmg hg args vals as hpre hlay hrd hwl hlo
  obtain ⟨a, e1, e2⟩ := PySem.W.os_pre_some hpre
  obtain ⟨e3, hwi⟩ := Codec.encAll_of_decAll r.args args a e1
  subst e3
  have KX := hY w _ Y
  obtain ⟨fd, hb, hF⟩ := F w mg fa _ Y KX G.T.g hmg
  refine PySem.W.enter_call (codeAny_mono (call_tables (R := []) (cl := classAt s₀.heap) (d0 := r.ret.enc (Codec.app r.args r.f a)) KX G.T.g G.T.b G.T.builtins G.T.nolimit hg (hT w _ _ _ _ Y G.T) (nT w) (fun p hp => PySem.W.codeHd_of_K KX (hC w p hp)) G.T.bmain hwl (pl_encAll _ _)
    (layable_weight hlay) hr hF hb (by rw [encAll_len]; exact hlen) (fun H xs hO hS => hsp w H xs a hO hwi e2 hS) fun H e s' => hCX w H s₁ e s') fun r' s' hq => ?_)
  obtain ⟨u, as', rfl, h1, h2, h3, h4⟩ := hq
  exact ⟨.inl ⟨u, _, as', rfl, fun _ => rfl, h1, (OpenSpec.post_iff hwell hwi _ _).mpr rfl, fun z => Bool.noConfusion (show false = true from z)⟩, h2, h3, h4⟩
end SayT
set_option Elab.async false
set_option linter.all false
set_option maxRecDepth 100000
set_option maxHeartbeats 4000000
/-! xs.extend(t), t a tuple. HandS.List tells it of a list alone. -/
namespace SayX
open PySem PySem.Spec PyProof.Rows L2 HT
theorem meets_extT {l b : Addr} {xs ys : Array Value} {n m : Nat} {dt : Option Addr} {sl : Array (Option Value)} (g0 : ¬(!xs.isEmpty && Builtin.List.listTooLong (xs.size + ys.size)) = true) (g1 : xs.size ≤ sizeLine) (g2 : (xs ++ ys).size ≤ sizeLine + 1) :
    Meets (Builtin.«list.extend» ⟨[.ref l, .ref b], []⟩) (fun _ R s => (s.heap.get? l = some { cls := .type "list", data := .seq xs n } ∧
      s.heap.get? b = some { cls := .type "tuple", dict := dt, data := .seq ys m, slots := sl }) ∧ R (.ok (.ret Value.none)) { s with heap := s.heap.update l (Obj.mapSeq fun x => x ++ ys), toks := s.toks }) := by
  refine .of_wp fun prog w A R s h => ?_
  obtain ⟨hp, gens, drawn, tk, os⟩ := s
  obtain ⟨⟨hl, hb⟩, h⟩ := h
  have k1 := AutoSeq1.idx_int
  have k2 := AutoSeq1.sub_tuple_tuple
  have k3 := AutoSeq1.sub_list_list
  have k4 := AutoSeq1.sub_tuple_list
  have k5 := AutoSeq1.sub_list_tuple
  wp_walk using (wpAny_updateSeq hl rfl (hz := g1) (_hz' := g2)), AutoSeq1.wpAny_loadPart' hl, AutoSeq1.wpAny_loadPart' hb
  exact ⟨_, rfl, h⟩
section
variable {X : Cx}
def rExtT (K : PySem.W.Frag) : V → List V → Hp → VK → Prop := fun x vs H Q => ∃ (l b : Addr) (xs zs : List V), x = .ref l ∧ vs = [.ref b] ∧ H l = some (.lst xs) ∧ SqT K H b zs ∧ xs.length + zs.length ≤ sizeLine ∧ Q .non (upd H l (.lst (xs ++ zs)))
theorem mt_extT : MtM X "list.extend" (rExtT X.K) := by
  intro pins s σ H x vs v us Q I rx rv h
  obtain ⟨l, b, xs, zs, rfl, rfl, hH, hB, hz, q⟩ := h
  cases rx
  obtain ⟨u, rfl, ru⟩ := rv.one
  cases ru
  obtain ⟨_, its, n, r, hl, e⟩ := I.lstM hH
  obtain ⟨its2, r2, p2, _⟩ := I.tuple hB
  have hl2 := r2.length
  obtain ⟨⟨cls, dd, data, sl⟩, ho, hc, m, hd⟩ := id p2
  simp only at hc hd
  subst hc hd
  have hsz : its.toArray.size + its2.toArray.size ≤ sizeLine := by rw [List.size_toArray, List.size_toArray]; omega
  have g0 : ¬ (!its.toArray.isEmpty && Builtin.List.listTooLong (its.toArray.size + its2.toArray.size)) = true := by
    rw [notLongL hsz, Bool.and_false]
    exact Bool.false_ne_true
  refine call_meets PySem.F.slot_list_extend ⟨_, e, rfl⟩ PySem.F.entry_list_extend (PySem.F.args_list_extend_2 _ _) (meets_extT g0 (by rw [List.size_toArray] at *; omega) (by rw [Array.size_append]; omega)) ⟨⟨e, ho⟩, ?_⟩
  refine ⟨.non, _, I.lset (its' := its ++ its2) hH e (by simp) (r.append r2) ?_, rfl, q⟩
  rw [List.length_append]
  omega
end
end SayX
set_option Elab.async false
set_option linter.all false
set_option maxRecDepth 100000
set_option maxHeartbeats 400000
/-! What all the defs' proofs speak of: where the defs stand in the program, what the program's top has left. -/
namespace Say
open PySem PySem.Spec PyProof.Rows L2
open SyBase SyLex SyWays
/-- the i-th statement of the program -/
def top (i : Nat) : Stmt := PySem.Challenge.pw_sayback_s01_answers.main.body.getD i (.Pass ⟨0, 0, 0, 0⟩)
abbrev sIsCharacter : Stmt := top 9
abbrev sMayStand : Stmt := top 10
abbrev sCharactersOf : Stmt := top 11
abbrev sCharacterAt : Stmt := top 12
abbrev sWithTail : Stmt := top 13
abbrev sLinesOf : Stmt := top 20
abbrev sPartsOf : Stmt := top 21
abbrev sPartsAt : Stmt := top 22
abbrev sNumberOf : Stmt := top 23
abbrev sFaultyInit : Stmt := inClass (top 27) 0
abbrev sJoinsInit : Stmt := inClass (top 31) 0
abbrev sBetween : Stmt := inClass (top 31) 1
abbrev sNewJoins : Stmt := top 32
abbrev sJoinsOf : Stmt := top 33
abbrev sAloneOf : Stmt := top 34
abbrev sNumbersOf : Stmt := top 35
abbrev sWithoutFree : Stmt := top 36
abbrev sWordInit : Stmt := inClass (top 38) 0
abbrev sKeepsBounds : Stmt := inClass (top 38) 1
abbrev sWordsOf : Stmt := top 39
abbrev sKindOfFault : Stmt := top 40
abbrev sWordOf : Stmt := top 41
abbrev sRowOf : Stmt := top 42
abbrev sInOrder : Stmt := top 43
abbrev sPieceInit : Stmt := inClass (top 45) 0
abbrev sPiecesOf : Stmt := top 46
abbrev sPiecesAt : Stmt := top 47
abbrev sStandsAt : Stmt := top 48
abbrev sByItself : Stmt := top 49
abbrev sEdge : Stmt := top 50
abbrev sWayInit : Stmt := inClass (top 52) 0
abbrev sHowMany : Stmt := top 53
abbrev sWayBack : Stmt := top 54
abbrev sRowsOf : Stmt := top 55
abbrev sCostsFrom : Stmt := top 56
abbrev sPiecesOfRank : Stmt := top 57
abbrev sPieceOfRank : Stmt := top 58
abbrev sKeeperInit : Stmt := inClass (top 60) 0
abbrev sBegin : Stmt := inClass (top 60) 1
abbrev sTakeWords : Stmt := inClass (top 60) 2
abbrev sTakeJoins : Stmt := inClass (top 60) 3
abbrev sCountWays : Stmt := inClass (top 60) 4
abbrev sNthWay : Stmt := inClass (top 60) 5
abbrev sPiecesFor : Stmt := inClass (top 60) 6
abbrev sCheckBytes : Stmt := top 61
abbrev sCheckSigns : Stmt := top 62
abbrev sAnswers : Stmt := top 70
abbrev sCallAt : Stmt := top 71
abbrev sAnswerOrRefusal : Stmt := top 72
abbrev sAnswerOf : Stmt := top 73
abbrev sNumbersOfWay : Stmt := top 74
abbrev sNumbersOfReading : Stmt := top 75
/-- a module's whole number -/
def Num (mg : Str → Option Value) (x : Str) (i : Int) : Prop := ∃ t, mg x = some (.int i t)
theorem pe_num {X : Cx} {x : Str} {i : Int} {pos : Pos} (N : Num X.mg x i) (hg : Gl X x) (hd : (x == ("__debug__" : Str)) = false := by decide) : PE X (.Name x pos) (tC (.int i)) := by
  obtain ⟨t, h⟩ := N
  exact pe_glob hg h ⟨t, rfl⟩ hd
/-- the top's names: built-ins that stay, whole numbers -/
structure Glob (mg : Str → Option Value) : Prop where
  enumerate : mg "enumerate" = none
  len : mg "len" = none
  min : mg "min" = none
  max : mg "max" = none
  all : mg "all" = none
  tuple : mg "tuple" = none
  sorted : mg "sorted" = none
  exc : mg "Exception" = none
  range : mg "range" = none
  zip : mg "zip" = none
  sum : mg "sum" = none
  value : mg "ValueError" = none
  lineEnd : Num mg "LINE_END" 10
  blank : Num mg "BLANK" 32
  digit0 : Num mg "DIGIT_0" 48
  digit9 : Num mg "DIGIT_9" 57
  above : Num mg "ABOVE_ALL_BOUNDS" 65536
  bytes : Num mg "MOST_BYTES" 65536
  words : Num mg "MOST_WORDS" 128
  characters : Num mg "MOST_CHARACTERS" 32
  sort : Num mg "MOST_SORT" 255
  cost : Num mg "MOST_COST" 65535
  begin : Num mg "BEGIN" 1
  wordsC : Num mg "WORDS" 2
  joinsC : Num mg "JOINS" 3
  manyC : Num mg "MANY" 4
  nthC : Num mg "NTH" 5
  readingC : Num mg "READING" 6
  signs : Num mg "MOST_SIGNS" 24
  ways : Num mg "MOST_WAYS" 1024
/-- a def of the program by its name, with the promise that it keeps -/
def Has (P : Program) (w : World) (K : PySem.W.Frag) (mg : Str → Option Value) (base : Heap) (CX : CXT) (k : Nat) (x : Str) (ps : List Str) (sp : Sp) : Prop :=
  ∃ (f : Addr) (fd : FuncData), FnOk P w K mg base CX k f fd ps sp ∧ mg x = some (.ref f) ∧ PySem.W.keepIn K (.ref f) = true ∧ Binds K fd ps []
/-- bytes as they stand in a list -/
abbrev bI (b : Bytes) : List V := b.map fun c => V.int (c.toNat : Int)
/-- rows of bytes, each in a list of its own -/
abbrev RowsAt (H : Hp) (qs : List Addr) (bs : List Bytes) : Prop := Paired (fun q b => H q = some (.lst (bI b))) qs bs
theorem RowsAt.same {H H' : Hp} {qs : List Addr} {bs : List Bytes} (r : RowsAt H qs bs) (s : ∀ q ∈ qs, ∀ o, H q = some o → H' q = some o) : RowsAt H' qs bs := by
  induction r with
  | nil => exact .nil
  | cons h t ih => exact .cons (s _ List.mem_cons_self _ h) (ih fun q hq => s q (List.mem_cons_of_mem _ hq))
theorem paired_snoc {α β : Type} {F : α → β → Prop} {a : α} {b : β} (hab : F a b) : ∀ {xs : List α} {ys : List β}, Paired F xs ys → Paired F (xs ++ [a]) (ys ++ [b])
  | _, _, .nil => .cons hab .nil
  | _, _, .cons h t => .cons h (paired_snoc hab t)
theorem take_more {α : Type} {l : List α} {i : Nat} {x : α} (h : l[i]? = some x) : l.take (i + 1) = l.take i ++ [x] := by
  rw [List.take_add_one, h]
  rfl
theorem big {n : Nat} (h : n ≤ 1000000) : n < sizeLine := by
  rw [sizeLine_eq]
  omega
theorem cut_all (xs : List V) {lo : Nat} : cutV xs (some (lo : Int)) none = xs.drop lo := by
  unfold cutV
  rw [HT.sIx_nat, HT.sIx_none]
  rcases Nat.le_total lo xs.length with h | h
  · rw [Nat.min_eq_left h, List.take_of_length_le (by simp)]
  · rw [Nat.min_eq_right h, List.drop_of_length_le (Nat.le_refl _), List.drop_of_length_le h]
    simp
theorem cut_to (xs : List V) {lo hi : Nat} : cutV xs (some (lo : Int)) (some (hi : Int)) = (xs.take hi).drop lo := by
  unfold cutV
  rw [HT.sIx_nat, HT.sIx_nat, List.drop_take]
  rcases Nat.le_total lo xs.length with h | h
  · rw [Nat.min_eq_left h]
    rcases Nat.le_total hi xs.length with g | g
    · rw [Nat.min_eq_left g]
    · rw [Nat.min_eq_right g, List.take_of_length_le (by simp), List.take_of_length_le (by simp; omega)]
  · rw [Nat.min_eq_right h, List.drop_of_length_le (Nat.le_refl _), List.drop_of_length_le h]
    simp
/-- enumerate(xs): over a list that the body leaves as it is -/
theorem for_enum {K : PySem.W.Frag} {a : Addr} {xs : List V} {g : TG} {tb : TS} {D : Ends} {σ : L2.St} {H : Hp} (Pv : Nat → L2.St → Hp → Prop) (h0 : Pv 0 σ H) (hl : ∀ i σ H, i ≤ xs.length → Pv i σ H → SqL K H a xs)
    (hs : ∀ i x σ H T, xs[i]? = some x → Pv i σ H → H T = none → g (.ref T) σ (upd H T (.tup [.int (i : Nat), x])) fun σ2 H2 => tb { D with nx := Pv (i + 1), ct := Pv (i + 1), bk := D.nx } σ2 H2) (hd : ∀ σ H, Pv xs.length σ H → D.nx σ H) :
    ∃ W : Nat → Nat → L2.St → Hp → Prop, (∃ m, W 0 m σ H) ∧ ∀ i m σ H, W i m σ H →
      ((Ite K a).stop i H ∧ D.nx σ H) ∨ ((Ite K a).go i H ∧ ∃ N : L2.St → Hp → Prop, (∀ σ' H', N σ' H' → ∃ m', m' < m ∧ W (i + 1) m' σ' H') ∧ ∀ x H', (Ite K a).yld i H x H' → g x σ H' fun σ2 H2 => tb { D with nx := N, ct := N, bk := D.nx } σ2 H2) := by
  refine ⟨fun i m σ H => m = xs.length - i ∧ i ≤ xs.length ∧ Pv i σ H, ⟨xs.length, by simp, Nat.zero_le _, h0⟩, fun i m σ H hw => ?_⟩
  obtain ⟨hm, hi, p⟩ := hw
  have q := hl i σ H hi p
  rcases Nat.lt_or_ge i xs.length with lt | ge
  · refine .inr ⟨⟨xs, xs[i], q, by simp [lt]⟩, Pv (i + 1), fun σ' H' p' => ⟨xs.length - (i + 1), by omega, rfl, lt, p'⟩, fun x H' y => ?_⟩
    obtain ⟨T, z, ev, hn, eH, y⟩ := y
    subst ev
    subst eH
    exact hs i z σ H T (y xs q) p hn
  · have e : i = xs.length := Nat.le_antisymm hi ge
    subst e
    exact .inl ⟨⟨xs, q, Nat.le_refl _⟩, hd σ H p⟩
theorem bI_get {b : Bytes} {i : Nat} {x : V} (h : (bI b)[i]? = some x) : ∃ c, b[i]? = some c ∧ x = .int (c.toNat : Int) := by
  rw [List.getElem?_map] at h
  cases e : b[i]? with
  | none => rw [e] at h; cases h
  | some c => rw [e] at h; exact ⟨c, rfl, (Option.some.inj h).symm⟩
theorem same_upd {H : Hp} {p : Addr} {o : HO} (n : H p = none) : Same H (upd H p o) := fun b u e => by
  rw [upd_ne (ne_of_none e n)]
  exact e
theorem sq_upd {K : PySem.W.Frag} {H : Hp} {a p : Addr} {o : HO} {xs : List V} (n : H p = none) (h : SqL K H a xs) : SqL K (upd H p o) a xs := (same_upd n).seq h
theorem int_eq {c m : UInt8} : (V.int (c.toNat : Int) = V.int (m.toNat : Int)) ↔ c = m := by
  constructor
  · intro h
    injection h with h
    exact UInt8.toNat.inj (by omega)
  · rintro rfl
    rfl
theorem if_true_of {c : Bool} {A B : Prop} (hc : c = true) (h : A) : if c = true then A else B := by
  rw [if_pos hc]
  exact h
theorem if_false_of {c : Bool} {A B : Prop} (hc : c = false) (h : B) : if c = true then A else B := by
  rw [hc, if_neg Bool.false_ne_true]
  exact h
/-- what a def keeps of the old heap when it changes an object of its own -/
theorem same_mine {H0 H : Hp} {p : Addr} {o : HO} (s : Same H0 H) (n : H0 p = none) : Same H0 (upd H p o) := fun b u e => by
  rw [upd_ne (ne_of_none e n)]
  exact s b u e
theorem RowsAt.upd {H : Hp} {qs : List Addr} {bs : List Bytes} {p : Addr} {o : HO} (r : RowsAt H qs bs) (n : ∀ q ∈ qs, q ≠ p) : RowsAt (L2.upd H p o) qs bs := r.same fun q hq u e => by
  rw [upd_ne (n q hq)]
  exact e
theorem RowsAt.there {H : Hp} {qs : List Addr} {bs : List Bytes} (r : RowsAt H qs bs) : ∀ q ∈ qs, H q ≠ none := by
  induction r with
  | nil => intro q hq; cases hq
  | cons h t ih =>
    intro q hq
    rcases List.mem_cons.mp hq with rfl | hq
    · rw [h]; simp
    · exact ih q hq
end Say
set_option Elab.async false
set_option linter.all false
set_option maxRecDepth 100000
set_option maxHeartbeats 400000
/-! Tests read as one truth value. -/
namespace Say
open PySem PySem.Spec PyProof.Rows L2
open SyBase
/-- a test that answers b and leaves the heap -/
def Is (t : TT) (σ : L2.St) (H : Hp) (b : Bool) : Prop := ∀ Q : Bool → Hp → Prop, Q b H → t σ H Q
/-- a value that stands fast -/
def IsE (t : TE) (σ : L2.St) (H : Hp) (v : V) : Prop := ∀ Q : VK, Q v H → t σ H Q
theorem is_and {t u : TT} {σ : L2.St} {H : Hp} {b c : Bool} (h : Is t σ H b) (g : b = true → Is u σ H c) : Is (tAnd t u) σ H (b && c) := fun Q q => by
  refine h _ ?_
  cases b with
  | true => rw [if_pos rfl]; exact g rfl Q q
  | false => rw [if_neg Bool.false_ne_true]; exact q
theorem is_or {t u : TT} {σ : L2.St} {H : Hp} {b c : Bool} (h : Is t σ H b) (g : b = false → Is u σ H c) : Is (tOr t u) σ H (b || c) := fun Q q => by
  refine h _ ?_
  cases b with
  | true => rw [if_pos rfl]; exact q
  | false => rw [if_neg Bool.false_ne_true]; exact g rfl Q q
theorem is_not {t : TT} {σ : L2.St} {H : Hp} {b : Bool} (h : Is t σ H b) : Is (tNot t) σ H (!b) := fun Q q => h _ q
theorem is_chain {p q : Int → Int → V} {x y z : Int} {ta tb tc : TE} {σ : L2.St} {H : Hp} {b c : Bool} (hp : p x y = V.bl b) (hq : q y z = V.bl c)
    (ha : IsE ta σ H (.int x)) (hb : IsE tb σ H (.int y)) (hc : IsE tc σ H (.int z)) : Is (tTest (tChain (rI0 p) (rI0 q) ta tb tc)) σ H (b && c) := fun Q k => by
  refine ha _ (hb _ ?_)
  refine ⟨x, y, rfl, rfl, b, hp, ?_⟩
  cases b with
  | true => rw [if_pos rfl]; exact hc _ ⟨y, z, rfl, rfl, c, hq, by simpa using k⟩
  | false => rw [if_neg Bool.false_ne_true]; exact ⟨_, rfl, k⟩
/-- an if whose test is known -/
theorem if_is {t : TT} {A B : TS} {D : Ends} {σ : L2.St} {H : Hp} {b : Bool} (h : Is t σ H b) (g1 : b = true → A D σ H) (g2 : b = false → B D σ H) : tIfS t A B D σ H := by
  refine h _ ?_
  cases b with
  | true => rw [if_pos rfl]; exact g1 rfl
  | false => rw [if_neg Bool.false_ne_true]; exact g2 rfl
theorem seq_if {t : TT} {A B R : TS} {D : Ends} {σ : L2.St} {H : Hp} {b : Bool} (h : Is t σ H b) (g1 : b = true → tSeq A R D σ H) (g2 : b = false → tSeq B R D σ H) : tSeq (tIfS t A B) R D σ H := if_is h g1 g2
theorem seq_or {t u : TT} {A B R : TS} {D : Ends} {σ : L2.St} {H : Hp} (h : Is t σ H false) (g : u σ H fun b H1 => if b = true then tSeq A R D σ H1 else tSeq B R D σ H1) : tSeq (tIfS (tOr t u) A B) R D σ H := by
  refine h _ ?_
  rw [if_neg Bool.false_ne_true]
  exact g
theorem yes_of {A B : Hp → Prop} {σ : L2.St} {H : Hp} (h : A H) : tYes σ H (fun b H3 => if b = true then A H3 else B H3) := by
  show if true = true then A H else B H
  rw [if_pos rfl]
  exact h
theorem gname {i : Nat} {v : V} {σ : L2.St} {H : Hp} {Q : L2.St → Hp → Prop} (h : Q (σ.set i (some v)) H) : gName i v σ H Q := h
theorem ie_c {v : V} {σ : L2.St} {H : Hp} : IsE (tC v) σ H v := fun _ q => q
theorem ie_v {i : Nat} {v : V} {σ : L2.St} {H : Hp} (h : σ[i]? = some (some v)) : IsE (tVar i) σ H v := fun _ q => ⟨v, h, q⟩
theorem ie_i0 {g : Int → Int → V} {x y : Int} {ta tb : TE} {σ : L2.St} {H : Hp} (ha : IsE ta σ H (.int x)) (hb : IsE tb σ H (.int y)) : IsE (tOp (rI0 g) ta tb) σ H (g x y) := fun _ q => ha _ (hb _ ⟨x, y, rfl, rfl, q⟩)
theorem ie_i {C : Int → Int → Prop} {g : Int → Int → V} {x y : Int} {ta tb : TE} {σ : L2.St} {H : Hp} (ha : IsE ta σ H (.int x)) (hb : IsE tb σ H (.int y)) (hC : C x y) : IsE (tOp (rI C g) ta tb) σ H (g x y) := fun _ q => ha _ (hb _ ⟨x, y, rfl, rfl, hC, q⟩)
theorem ie_and {t u : TE} {σ : L2.St} {H : Hp} {b c : Bool} (h : IsE t σ H (.bl b)) (g : b = true → IsE u σ H (.bl c)) : IsE (tAndV t u) σ H (.bl (b && c)) := fun Q q => by
  refine h _ ⟨b, rfl, ?_⟩
  cases b with
  | true => rw [if_pos rfl]; exact g rfl Q q
  | false => rw [if_neg Bool.false_ne_true]; exact q
theorem ie_or {t u : TE} {σ : L2.St} {H : Hp} {b c : Bool} (h : IsE t σ H (.bl b)) (g : b = false → IsE u σ H (.bl c)) : IsE (tOrV t u) σ H (.bl (b || c)) := fun Q q => by
  refine h _ ⟨b, rfl, ?_⟩
  cases b with
  | true => rw [if_pos rfl]; exact q
  | false => rw [if_neg Bool.false_ne_true]; exact g rfl Q q
theorem ie_not {t : TE} {σ : L2.St} {H : Hp} {b : Bool} (h : IsE t σ H (.bl b)) : IsE (tNotV t) σ H (.bl (!b)) := fun Q q => h _ ⟨b, rfl, q⟩
theorem ie_chain {p q : Int → Int → V} {x y z : Int} {ta tb tc : TE} {σ : L2.St} {H : Hp} {b c : Bool} (hp : p x y = V.bl b) (hq : q y z = V.bl c)
    (ha : IsE ta σ H (.int x)) (hb : IsE tb σ H (.int y)) (hc : IsE tc σ H (.int z)) : IsE (tChain (rI0 p) (rI0 q) ta tb tc) σ H (.bl (b && c)) := fun Q k => by
  refine ha _ (hb _ ⟨x, y, rfl, rfl, b, hp, ?_⟩)
  cases b with
  | true => rw [if_pos rfl]; exact hc _ ⟨y, z, rfl, rfl, by rw [hq]; exact k⟩
  | false => rw [if_neg Bool.false_ne_true]; exact k
theorem ie_eqI {x y : Int} {ta tb : TE} {σ : L2.St} {H : Hp} (ha : IsE ta σ H (.int x)) (hb : IsE tb σ H (.int y)) : IsE (tOp rEq ta tb) σ H (.bl (decide (x = y))) := fun Q q => by
  refine ha _ (hb _ ⟨rfl, ?_⟩)
  rw [show decide (V.int x = V.int y) = decide (x = y) from decide_eq_decide.mpr ⟨fun h => by injection h, fun h => by rw [h]⟩]
  exact q
theorem dec_intV {x y : Int} : decide (V.int x = V.int y) = decide (x = y) := decide_eq_decide.mpr ⟨fun h => by injection h, fun h => by rw [h]⟩
theorem ie_neI {x y : Int} {ta tb : TE} {σ : L2.St} {H : Hp} (ha : IsE ta σ H (.int x)) (hb : IsE tb σ H (.int y)) : IsE (tOp rNe ta tb) σ H (.bl (!decide (x = y))) := fun Q q => by
  refine ha _ (hb _ ⟨rfl, ?_⟩)
  rw [dec_intV]
  exact q
theorem ie_isN {t : TE} {σ : L2.St} {H : Hp} {v : V} (h : IsE t σ H v) : IsE (tIsN t) σ H (.bl (decide (v = .non))) := fun Q q => h _ q
theorem ie_notN {t : TE} {σ : L2.St} {H : Hp} {v : V} (h : IsE t σ H v) : IsE (tNotN t) σ H (.bl (!decide (v = .non))) := fun Q q => h _ q
theorem ret_is {t : TE} {D : Ends} {σ : L2.St} {H : Hp} {v : V} (h : IsE t σ H v) (q : D.rt v H) : tRet t D σ H := h _ q
theorem set_is {t : TE} {i : Nat} {D : Ends} {σ : L2.St} {H : Hp} {v : V} (h : IsE t σ H v) (q : D.nx (σ.set i (some v)) H) : tAsg t (gName i) D σ H := h _ q
theorem is_test {t : TE} {σ : L2.St} {H : Hp} {b : Bool} (h : IsE t σ H (.bl b)) : Is (tTest t) σ H b := fun _ q => h _ ⟨b, rfl, q⟩
theorem is_cmp {p : Int → Int → V} {x y : Int} {ta tb : TE} {σ : L2.St} {H : Hp} {b : Bool} (hp : p x y = V.bl b) (ha : IsE ta σ H (.int x)) (hb : IsE tb σ H (.int y)) : Is (tTest (tOp (rI0 p) ta tb)) σ H b := is_test (by rw [← hp]; exact ie_i0 ha hb)
theorem ie_cast {t : TE} {σ : L2.St} {H : Hp} {v v' : V} (h : IsE t σ H v) (e : v = v') : IsE t σ H v' := by
  rw [← e]
  exact h
theorem arg_is {t : TE} {r : TA} {σ : L2.St} {H : Hp} {v : V} {Q : List V → Hp → Prop} (h : IsE t σ H v) (q : r σ H fun xs H2 => Q (v :: xs) H2) : tCons t r σ H Q := h _ q
theorem part_is {t : TE} {σ : L2.St} {H : Hp} {i : Int} {Q : Option Int → Hp → Prop} (h : IsE t σ H (.int i)) (q : Q (some i) H) : tPart t σ H Q := h _ ⟨i, rfl, q⟩
theorem is_tB {t : TE} {σ : L2.St} {H : Hp} {b : Bool} (h : IsE t σ H (.bl b)) : Is (tB t) σ H b := fun _ q => h _ ⟨b, rfl, q⟩
theorem cut_of {b : Bytes} {lo hi : Nat} : cutV (bI b) (some (lo : Int)) (some (hi : Int)) = bI ((b.take hi).drop lo) := by
  rw [cut_to]
  simp [bI, List.map_drop, List.map_take]
theorem seq_asg {t : TE} {i : Nat} {u : TS} {D : Ends} {σ : L2.St} {H : Hp} (q : t σ H fun x H1 => u D (σ.set i (some x)) H1) : tSeq (tAsg t (gName i)) u D σ H := q
theorem seq_set {t : TE} {i : Nat} {u : TS} {D : Ends} {σ : L2.St} {H : Hp} {v : V} (h : IsE t σ H v) (q : u D (σ.set i (some v)) H) : tSeq (tAsg t (gName i)) u D σ H := h _ q
theorem call_of {sp : Sp} {dvs : List V} {E : XK} {t : TA} {σ : L2.St} {H : Hp} {Q : VK} (q : t σ H fun vs H1 => sp (vs ++ dvs) H1 Q E) : tCall sp dvs E t σ H Q := q
/-- a list's part by two numbers, a new list -/
theorem sl_is {K : PySem.W.Frag} {te : TE} {tl th : TE} {σ : L2.St} {H : Hp} {a : Addr} {b : Bytes} {lo hi : Nat} {Q : VK} (he : IsE te σ H (.ref a)) (hl : IsE tl σ H (.int (lo : Nat))) (hh : IsE th σ H (.int (hi : Nat))) (hS : SqL K H a (bI b))
    (q : ∀ p, H p = none → Q (.ref p) (upd H p (.lst (bI ((b.take hi).drop lo))))) : tSl (rSlL K) te (tPart tl) (tPart th) σ H Q := by
  refine he _ (part_is hl (part_is hh ⟨a, bI b, rfl, hS, fun p n => ?_⟩))
  rw [cut_of]
  exact q p n
theorem ie_len {K : PySem.W.Frag} {t : TE} {σ : L2.St} {H : Hp} {a : Addr} {ys : List V} (h : IsE t σ H (.ref a)) (hS : SqL K H a ys) : IsE (tCB (fun xs H Q => ∃ p ys, xs = [V.ref p] ∧ (SqL K H p ys ∨ SqT K H p ys) ∧ Q (V.int (ys.length : Nat)) H) (tCons t tNil)) σ H (.int (ys.length : Nat)) := fun _ q => h _ ⟨a, ys, rfl, .inl hS, q⟩
theorem ie_lenT {K : PySem.W.Frag} {t : TE} {σ : L2.St} {H : Hp} {a : Addr} {ys : List V} (h : IsE t σ H (.ref a)) (hS : SqT K H a ys) : IsE (tCB (fun xs H Q => ∃ p ys, xs = [V.ref p] ∧ (SqL K H p ys ∨ SqT K H p ys) ∧ Q (V.int (ys.length : Nat)) H) (tCons t tNil)) σ H (.int (ys.length : Nat)) := fun _ q => h _ ⟨a, ys, rfl, .inr hS, q⟩
theorem is_call1 {sp : Sp} {t : TE} {σ : L2.St} {H : Hp} {v : V} {b : Bool} (h : IsE t σ H v) (g : ∀ Q : VK, Q (.bl b) H → sp [v] H Q E0) : Is (tB (tCall sp [] E0 (tCons t tNil))) σ H b := fun Q q => h _ (g _ ⟨b, rfl, q⟩)
theorem ret_tup2 {t u : TE} {D : Ends} {σ : L2.St} {H : Hp} {x y : V} (h : IsE t σ H x) (g : IsE u σ H y) (q : ∀ p, H p = none → D.rt (.ref p) (upd H p (.tup [x, y]))) : tRet (tTup (tCons t (tCons u tNil))) D σ H :=
  h _ (g _ ⟨by show 2 ≤ sizeLine; decide, q⟩)
theorem ret_tup3 {t u r : TE} {D : Ends} {σ : L2.St} {H : Hp} {x y z : V} (h : IsE t σ H x) (g : IsE u σ H y) (k : IsE r σ H z) (q : ∀ p, H p = none → D.rt (.ref p) (upd H p (.tup [x, y, z]))) : tRet (tTup (tCons t (tCons u (tCons r tNil)))) D σ H :=
  h _ (g _ (k _ ⟨by show 3 ≤ sizeLine; decide, q⟩))
theorem ie_fld {K : PySem.W.Frag} {t : TE} {σ : L2.St} {H : Hp} {a C dx : Addr} {fs : List (Str × V)} {f : Str} {v : V} (h : IsE t σ H (.ref a)) (e : H a = some (.ins C dx fs)) (c : Cls K C) (n : NoAttr K C f) (l : fs.lookup f = some v) : IsE (tFld K t f) σ H v := fun _ q => h _ ⟨a, C, dx, fs, v, rfl, e, c, n, l, q⟩
theorem ie_max2 {t u : TE} {σ : L2.St} {H : Hp} {x y : Nat} (h : IsE t σ H (.int (x : Nat))) (g : IsE u σ H (.int (y : Nat))) : IsE (tCB (fun xs H Q => ∃ i j, xs = [V.int i, V.int j] ∧ Q (V.int (if j > i then j else i)) H) (tCons t (tCons u tNil))) σ H (.int ((max x y : Nat))) := fun Q q => h _ (g _ ⟨_, _, rfl, by
  have : (if (y : Int) > (x : Int) then (y : Int) else (x : Int)) = ((max x y : Nat) : Int) := by split <;> omega
  rw [this]
  exact q⟩)
theorem dec_le {x y : Nat} : V.bl (decide ((x : Int) ≤ (y : Int))) = V.bl (decide (x ≤ y)) := by rw [show decide ((x : Int) ≤ (y : Int)) = decide (x ≤ y) from decide_eq_decide.mpr (by omega)]
/-- numbers that are not below 0: a test on them -/
theorem ie_leN {t u : TE} {σ : L2.St} {H : Hp} {x y : Nat} (h : IsE t σ H (.int (x : Nat))) (g : IsE u σ H (.int (y : Nat))) : IsE (tOp (rI0 fun i j => V.bl (decide (i ≤ j))) t u) σ H (.bl (decide (x ≤ y))) := ie_cast (ie_i0 h g) dec_le
theorem ie_ltN {t u : TE} {σ : L2.St} {H : Hp} {x y : Nat} (h : IsE t σ H (.int (x : Nat))) (g : IsE u σ H (.int (y : Nat))) : IsE (tOp (rI0 fun i j => V.bl (decide (i < j))) t u) σ H (.bl (decide (x < y))) := ie_cast (ie_i0 h g) (by rw [show decide ((x : Int) < (y : Int)) = decide (x < y) from decide_eq_decide.mpr (by omega)])
theorem ie_gtN {t u : TE} {σ : L2.St} {H : Hp} {x y : Nat} (h : IsE t σ H (.int (x : Nat))) (g : IsE u σ H (.int (y : Nat))) : IsE (tOp (rI0 fun i j => V.bl (decide (j < i))) t u) σ H (.bl (decide (y < x))) := ie_cast (ie_i0 h g) (by rw [show decide ((y : Int) < (x : Int)) = decide (y < x) from decide_eq_decide.mpr (by omega)])
theorem ie_geN {t u : TE} {σ : L2.St} {H : Hp} {x y : Nat} (h : IsE t σ H (.int (x : Nat))) (g : IsE u σ H (.int (y : Nat))) : IsE (tOp (rI0 fun i j => V.bl (decide (j ≤ i))) t u) σ H (.bl (decide (y ≤ x))) := ie_cast (ie_i0 h g) dec_le
theorem ie_eqN {t u : TE} {σ : L2.St} {H : Hp} {x y : Nat} (h : IsE t σ H (.int (x : Nat))) (g : IsE u σ H (.int (y : Nat))) : IsE (tOp rEq t u) σ H (.bl (decide (x = y))) := ie_cast (ie_eqI h g) (by rw [show decide ((x : Int) = (y : Int)) = decide (x = y) from decide_eq_decide.mpr (by omega)])
theorem ie_neN {t u : TE} {σ : L2.St} {H : Hp} {x y : Nat} (h : IsE t σ H (.int (x : Nat))) (g : IsE u σ H (.int (y : Nat))) : IsE (tOp rNe t u) σ H (.bl (!decide (x = y))) := ie_cast (ie_neI h g) (by rw [show decide ((x : Int) = (y : Int)) = decide (x = y) from decide_eq_decide.mpr (by omega)])
theorem ie_addN {t u : TE} {σ : L2.St} {H : Hp} {x y : Nat} (h : IsE t σ H (.int (x : Nat))) (g : IsE u σ H (.int (y : Nat))) : IsE (tOp (rI0 fun i j => V.int (i + j)) t u) σ H (.int ((x + y : Nat))) := ie_cast (ie_i0 h g) (by rw [Int.natCast_add])
theorem not_there {H H' : Hp} {p : Addr} (s : Same H H') (n : H' p = none) : H p = none := by
  cases e : H p with
  | none => rfl
  | some o => rw [s p o e] at n; cases n
theorem same_new {H H' : Hp} {p : Addr} {o : HO} (s : Same H H') (n : H' p = none) : Same H (upd H' p o) := same_mine s (not_there s n)
end Say
set_option Elab.async false
set_option linter.all false
set_option maxRecDepth 100000
set_option maxHeartbeats 400000
namespace Say
open PySem PySem.Spec PyProof.Rows L2
open SyBase SyLex SyWays
variable {P : Program} {w : World} {K : PySem.W.Frag} {mg : Str → Option Value} {base : Heap}
/-- parts_at: the parts between the marks, each a new list -/
def spPartsAt (K : PySem.W.Frag) : Sp := fun vs H Q _ => ∃ (a : Addr) (b : Bytes) (m : UInt8), vs = [.ref a, .int (m.toNat : Int)] ∧ SqL K H a (bI b) ∧ b.length ≤ 100000 ∧
  ∀ (H' : Hp) (p : Addr) (qs : List Addr), Same H H' → H p = none → H' p = some (.lst (qs.map V.ref)) → RowsAt H' qs (splitB m b) → (∀ q ∈ qs, H q = none ∧ q ≠ p) → Q (.ref p) H'
theorem scPartsAt : FnScope ["octets", "mark", "parts", "start", "place", "octet"] ["octets", "mark"] (defScope sPartsAt) := ⟨rfl, rfl, rfl, by decide +kernel, rfl, by decide +kernel, by decide +kernel⟩
theorem ok_partsAt {f : Addr} {fd : FuncData} (F : Fun K "parts_at" "parts_at" sPartsAt f fd) (T : Glob mg) : FnOk P w K mg base CX0 1 f fd ["octets", "mark"] (spPartsAt K) := by
  refine F.ok scPartsAt (fun vs H Q E h => ?_) (fun cdv A outer s H vs Q E hr h => ?_)
  · obtain ⟨a, b, m, rfl, _⟩ := h
    rfl
  · refine ⟨_, pss_cons (ps_set (i := 2) scPartsAt.nd rfl (Or.inl rfl) (pe_lst pa_nil))
      (pss_cons (ps_set (i := 3) scPartsAt.nd rfl (Or.inl rfl) pe_int)
      (pss_cons (ps_for PassesOwn.never rfl (pi_enum rfl T.enumerate (pa_cons (pv 0) pa_nil)) (pg_tup rfl (pgs_cons (pg_name (i := 4) scPartsAt.nd rfl (Or.inl rfl)) (pgs_cons (pg_name (i := 5) scPartsAt.nd rfl (Or.inl rfl)) pgs_nil)))
        (pss_one (ps_if (pt_cmpR op_eq (pv 5) (pv 1) (nomark _))
          (pss_cons (ps_expr (pe_bm PySem.F.plainAttrs_list PySem.F.slot_list_append PySem.F.type_list_append mt_append (pv 2) (pa_cons (pe_slice sl_list (pv 0) (po_some (pv 3)) (po_some (pv 4))) pa_nil)))
            (pss_one (ps_set (i := 3) scPartsAt.nd rfl (Or.inl rfl) (pe_op op_add (pv 4) pe_int))))
          pss_nil)))
      (pss_cons (ps_expr (pe_bm PySem.F.plainAttrs_list PySem.F.slot_list_append PySem.F.type_list_append mt_append (pv 2) (pa_cons (pe_slice sl_list (pv 0) (po_some (pv 3)) po_none) pa_nil)))
      (pss_one (ps_ret (pv 2)))))), ?_⟩
    obtain ⟨a, b, m, rfl, hS, hlen, k⟩ := h
    refine ⟨by show 0 ≤ sizeLine; decide, fun p np => ?_⟩
    refine ⟨_, rfl, a, bI b, rfl, sq_upd np hS, ?_⟩
    refine for_enum (xs := bI b) (fun i σ Hc => ∃ (v4 v5 : Option V) (st : Nat) (qs : List Addr) (pre : List Bytes), σ = [some (.ref a), some (.int (m.toNat : Int)), some (.ref p), some (.int (st : Int)), v4, v5] ∧ st ≤ i ∧ Same H Hc ∧
      Hc p = some (.lst (qs.map V.ref)) ∧ RowsAt Hc qs pre ∧ (∀ q ∈ qs, H q = none ∧ q ≠ p) ∧ splitB m (b.take i) = pre ++ [(b.take i).drop st])
      ⟨none, none, 0, [], [], rfl, Nat.le_refl _, same_upd np, upd_same, .nil, fun q hq => (by cases hq), by simp [splitB]⟩
      (fun i σ Hc _ ⟨_, _, _, _, _, _, _, sm, _⟩ => sm.seq hS) ?_ ?_
    · rintro i x σ Hc T hx ⟨v4, v5, st, qs, pre, rfl, hst, sm, hp, rows, fresh, hsp⟩ nT
      obtain ⟨c, hc, rfl⟩ := bI_get hx
      have hil : i < b.length := (List.getElem?_eq_some_iff.mp hc).1
      have etk := take_more hc
      have nTp : p ≠ T := ne_of_none hp nT
      have sm1 : Same H (upd Hc T (.tup [.int (i : Nat), .int (c.toNat : Int)])) := fun b' o e => by
        rw [upd_ne (ne_of_none (sm b' o e) nT)]
        exact sm b' o e
      have rows1 : RowsAt (upd Hc T (.tup [.int (i : Nat), .int (c.toNat : Int)])) qs pre := rows.upd fun q hq z => rows.there q hq (by rw [z]; exact nT)
      refine ⟨T, _, rfl, SqT.of upd_same, rfl, _, _, rfl, _, _, rfl, rfl, ?_⟩
      refine ⟨_, rfl, _, rfl, rfl, _, rfl, ?_⟩
      by_cases e : c = m
      · -- the mark: what stands before it is a part
        refine if_true_of (decide_eq_true (int_eq.mpr e)) ?_
        refine ⟨_, rfl, Or.inl ⟨rfl, _, .inl (.inl ((upd_ne nTp).trans hp))⟩, _, rfl, _, rfl, _, rfl, _, rfl, _, rfl, a, bI b, rfl, sm1.seq hS, fun l nl => ?_⟩
        have nlp : p ≠ l := ne_of_none ((upd_ne nTp).trans hp) nl
        have nlH : H l = none := by
          cases z : H l with
          | none => rfl
          | some o => rw [sm1 l o z] at nl; cases nl
        have hcut : cutV (bI b) (some (st : Int)) (some ((i : Nat) : Int)) = bI ((b.take i).drop st) := by
          rw [cut_to]
          simp [bI, List.map_drop, List.map_take]
        rw [hcut]
        have hp1 : upd (upd Hc T (.tup [.int (i : Nat), .int (c.toNat : Int)])) l (.lst (bI ((b.take i).drop st))) p = some (.lst (qs.map V.ref)) := by rw [upd_ne nlp, upd_ne nTp]; exact hp
        have hqs : qs.length < sizeLine := by
          have h1 := Paired.length rows
          have h2 := splitB_size m (b.take i)
          rw [hsp, List.length_append, List.length_take] at h2
          simp only [List.length_cons, List.length_nil] at h2
          exact big (by omega)
        refine ⟨p, _, _, rfl, rfl, hp1, by rw [List.length_map]; exact hqs, ?_⟩
        refine ⟨_, rfl, _, _, rfl, rfl, ?_⟩
        refine ⟨_, _, i + 1, qs ++ [l], pre ++ [(b.take i).drop st], rfl, Nat.le_refl _, ?_, ?_, ?_, ?_, ?_⟩
        · exact same_mine (fun b' o z => by rw [upd_ne (ne_of_none (sm1 b' o z) nl)]; exact sm1 b' o z) np
        · rw [upd_same, List.map_append]
          rfl
        · refine paired_snoc ?_ ((rows1.upd fun q hq z => rows1.there q hq (by rw [z]; exact nl)).upd fun q hq => (fresh q hq).2)
          rw [upd_ne (Ne.symm nlp), upd_same]
        · intro q hq
          rcases List.mem_append.mp hq with hq | hq
          · exact fresh q hq
          · have : q = l := by simpa using hq
            rw [this]
            exact ⟨nlH, Ne.symm nlp⟩
        · rw [etk, e, splitB_snoc_mark, hsp]
          have : (b.take i ++ [m]).drop (i + 1) = [] := List.drop_of_length_le (by simp; omega)
          rw [this]
      · refine if_false_of (decide_eq_false (fun z => e (int_eq.mp z))) ?_
        refine ⟨_, _, st, qs, pre, rfl, Nat.le_succ_of_le hst, sm1, (upd_ne nTp).trans hp, rows1, fresh, ?_⟩
        rw [etk, splitB_snoc e _ _ _ hsp, List.drop_append_of_le_length (by rw [List.length_take]; omega)]
    · rintro σ Hc ⟨v4, v5, st, qs, pre, rfl, hst, sm, hp, rows, fresh, hsp⟩
      rw [List.length_map, List.take_length] at hsp
      rw [List.length_map] at hst
      refine ⟨_, rfl, Or.inl ⟨rfl, _, .inl (.inl hp)⟩, _, rfl, _, rfl, _, rfl, a, bI b, rfl, sm.seq hS, fun l nl => ?_⟩
      have nlp : p ≠ l := ne_of_none hp nl
      have nlH : H l = none := by
        cases z : H l with
        | none => rfl
        | some o => rw [sm l o z] at nl; cases nl
      have hcut : cutV (bI b) (some (st : Int)) none = bI (b.drop st) := by
        rw [cut_all]
        simp [bI, List.map_drop]
      rw [hcut]
      have hqs : qs.length < sizeLine := by
        have h1 := Paired.length rows
        have h2 := splitB_size m b
        rw [hsp, List.length_append] at h2
        simp only [List.length_cons, List.length_nil] at h2
        exact big (by omega)
      refine ⟨p, _, _, rfl, rfl, (upd_ne nlp).trans hp, by rw [List.length_map]; exact hqs, ?_⟩
      refine ⟨_, rfl, ?_⟩
      refine k _ p (qs ++ [l]) ?_ np ?_ ?_ ?_
      · exact same_mine (fun b' o z => by rw [upd_ne (ne_of_none (sm b' o z) nl)]; exact sm b' o z) np
      · rw [upd_same, List.map_append]
        rfl
      · rw [hsp]
        refine paired_snoc ?_ ((rows.upd fun q hq z => rows.there q hq (by rw [z]; exact nl)).upd fun q hq => (fresh q hq).2)
        rw [upd_ne (Ne.symm nlp), upd_same]
      · intro q hq
        rcases List.mem_append.mp hq with hq | hq
        · exact fresh q hq
        · have : q = l := by simpa using hq
          rw [this]
          exact ⟨nlH, Ne.symm nlp⟩
end Say
set_option Elab.async false
set_option linter.all false
set_option maxRecDepth 100000
set_option maxHeartbeats 400000
namespace Say
open PySem PySem.Spec PyProof.Rows L2
open SyBase SyLex SyWays
variable {P : Program} {w : World} {K : PySem.W.Frag} {mg : Str → Option Value} {base : Heap}
/-- parts_of: the parts between blanks -/
def spPartsOf (K : PySem.W.Frag) : Sp := fun vs H Q _ => ∃ (a : Addr) (b : Bytes), vs = [.ref a] ∧ SqL K H a (bI b) ∧ b.length ≤ 100000 ∧
  ∀ (H' : Hp) (p : Addr) (qs : List Addr), Same H H' → H p = none → H' p = some (.lst (qs.map V.ref)) → RowsAt H' qs (splitB 0x20 b) → (∀ q ∈ qs, H q = none ∧ q ≠ p) → Q (.ref p) H'
theorem scPartsOf : FnScope ["line"] ["line"] (defScope sPartsOf) := ⟨rfl, rfl, rfl, by decide +kernel, rfl, by decide +kernel, by decide +kernel⟩
theorem ok_partsOf {f : Addr} {fd : FuncData} (F : Fun K "parts_of" "parts_of" sPartsOf f fd) (T : Glob mg) (h1 : Has P w K mg base CX0 1 "parts_at" ["octets", "mark"] (spPartsAt K)) :
    FnOk P w K mg base CX0 2 f fd ["line"] (spPartsOf K) := by
  obtain ⟨f1, fd1, G1, m1, k1, b1⟩ := h1
  refine F.ok scPartsOf (fun vs H Q E h => ?_) (fun cdv A outer s H vs Q E hr h => ?_)
  · obtain ⟨a, b, rfl, _⟩ := h
    rfl
  · refine ⟨_, pss_one (ps_ret (pe_call G1 hr rfl m1 k1 b1 .nil pass0 (pa_cons (pv 0) (pa_cons (pe_num T.blank rfl) pa_nil)))), ?_⟩
    obtain ⟨a, b, rfl, hS, hlen, k⟩ := h
    exact ⟨_, rfl, a, b, 0x20, rfl, hS, hlen, k⟩
/-- lines_of: the lines, and what stands behind the last of them -/
def spLinesOf (K : PySem.W.Frag) : Sp := fun vs H Q _ => ∃ (a : Addr) (b : Bytes) (ls : List Bytes) (z : Bytes), vs = [.ref a] ∧ SqL K H a (bI b) ∧ b.length ≤ 100000 ∧ splitB 0x0A b = ls ++ [z] ∧
  ∀ (H' : Hp) (p l q : Addr) (qs : List Addr), Same H H' → H' p = some (.tup [.ref l, .ref q]) → H' l = some (.lst (qs.map V.ref)) → RowsAt H' qs ls → H' q = some (.lst (bI z)) → H l = none → (∀ q' ∈ qs, q' ≠ l) → Q (.ref p) H'
theorem scLinesOf : FnScope ["t", "lines", "behind"] ["t"] (defScope sLinesOf) := ⟨rfl, rfl, rfl, by decide +kernel, rfl, by decide +kernel, by decide +kernel⟩
theorem paired_last {α β : Type} {F : α → β → Prop} : ∀ {xs : List α} {ys : List β} {b : β}, Paired F xs (ys ++ [b]) → ∃ xs' a, xs = xs' ++ [a] ∧ Paired F xs' ys ∧ F a b
  | _, [], _, .cons h .nil => ⟨[], _, rfl, .nil, h⟩
  | _, y :: ys, _, .cons h t => by
    obtain ⟨xs', a, e, r, q⟩ := paired_last t
    exact ⟨_ :: xs', a, by rw [e]; rfl, .cons h r, q⟩
theorem ok_linesOf {f : Addr} {fd : FuncData} (F : Fun K "lines_of" "lines_of" sLinesOf f fd) (T : Glob mg) (h1 : Has P w K mg base CX0 1 "parts_at" ["octets", "mark"] (spPartsAt K)) :
    FnOk P w K mg base CX0 2 f fd ["t"] (spLinesOf K) := by
  obtain ⟨f1, fd1, G1, m1, k1, b1⟩ := h1
  refine F.ok scLinesOf (fun vs H Q E h => ?_) (fun cdv A outer s H vs Q E hr h => ?_)
  · obtain ⟨a, b, _, _, rfl, _⟩ := h
    rfl
  · refine ⟨_, pss_cons (ps_set (i := 1) scLinesOf.nd rfl (Or.inl rfl) (pe_call G1 hr rfl m1 k1 b1 .nil pass0 (pa_cons (pv 0) (pa_cons (pe_num T.lineEnd rfl) pa_nil))))
      (pss_cons (ps_set (i := 2) scLinesOf.nd rfl (Or.inl rfl) (pe_bm0 PySem.F.plainAttrs_list PySem.F.slot_list_pop PySem.F.type_list_pop mt_pop (pv 1)))
      (pss_one (ps_ret (pe_tup (pa_cons (pv 1) (pa_cons (pv 2) pa_nil)))))), ?_⟩
    obtain ⟨a, b, ls, z, rfl, hS, hlen, hsp, k⟩ := h
    refine ⟨_, rfl, a, b, 0x0A, rfl, hS, hlen, fun H1 p qs sm np hp rows fresh => ?_⟩
    rw [hsp] at rows
    obtain ⟨qs', q, rfl, rows', hq⟩ := paired_last rows
    have hqp : q ≠ p := (fresh q (by simp)).2
    refine ⟨_, rfl, Or.inl ⟨rfl, _, .inl (.inl hp)⟩, p, _, .ref q, rfl, rfl, hp, ?_, ?_⟩
    · rw [List.length_map, List.length_append, List.map_append]
      simp
    · have ed : ((qs' ++ [q]).map V.ref).dropLast = qs'.map V.ref := by rw [List.map_append]; exact List.dropLast_concat
      rw [ed]
      refine ⟨_, rfl, _, rfl, by show 2 ≤ sizeLine; decide, fun t nt => ?_⟩
      have nH : H t = none := by
        cases e : H t with
        | none => rfl
        | some o => rw [same_mine sm np t o e] at nt; cases nt
      have ntp : t ≠ p := fun e => by rw [e, upd_same] at nt; cases nt
      have notT : ∀ {b' : Addr} {o : HO}, H1 b' = some o → b' ≠ t := fun {b' o} e z => by
        rw [z] at e
        rw [upd_ne ntp] at nt
        rw [nt] at e
        cases e
      refine k _ t p q qs' (same_mine (same_mine sm np) nH) upd_same ((upd_ne (Ne.symm ntp)).trans upd_same) ?_ ?_ np fun q' hq' => (fresh q' (List.mem_append_left _ hq')).2
      · refine RowsAt.upd (RowsAt.upd rows' fun q' hq' => (fresh q' (List.mem_append_left _ hq')).2) fun q' hq' z => ?_
        have := RowsAt.there rows' q' hq'
        cases e : H1 q' with
        | none => exact this e
        | some o => exact notT e z
      · rw [upd_ne (notT hq), upd_ne hqp]
        exact hq
/-- number_of: the number, or None -/
def numV : Option Nat → V
  | none => .non
  | some n => .int (cap n : Nat)
def spNumberOf (K : PySem.W.Frag) : Sp := fun vs H Q _ => ∃ (a : Addr) (b : Bytes), vs = [.ref a] ∧ SqL K H a (bI b) ∧ b.length ≤ 100000 ∧ Q (numV (decimalOf b)) H
theorem scNumberOf : FnScope ["part", "number", "octet"] ["part"] (defScope sNumberOf) := ⟨rfl, rfl, rfl, by decide +kernel, rfl, by decide +kernel, by decide +kernel⟩
theorem ok_numberOf {f : Addr} {fd : FuncData} (F : Fun K "number_of" "number_of" sNumberOf f fd) (T : Glob mg) : FnOk P w K mg base CX0 1 f fd ["part"] (spNumberOf K) := by
  refine F.ok scNumberOf (fun vs H Q E h => ?_) (fun cdv A outer s H vs Q E hr h => ?_)
  · obtain ⟨a, b, rfl, _⟩ := h
    rfl
  · refine ⟨_, pss_cons (ps_if (PW.pt (pw_or (pt_not (pt_truth (pv 0) (by intro _; rfl))) (pw_or1 (PW.pt (pw_and (pt_cmpR op_eq (pe_ix ix_list (pv 0) pe_int (fun _ _ => rfl)) (pe_num T.digit0 rfl) (nomark _))
          (pw_and1 (pt_cmpR op_gt (pe_callB call_len_seq rfl T.len PySem.boot_len (pa_cons (pv 0) pa_nil)) pe_int (nomark _))))))))
        (pss_one (ps_ret pe_non)) pss_nil)
      (pss_cons (ps_set (i := 1) scNumberOf.nd rfl (Or.inl rfl) pe_int)
      (pss_cons (ps_for PassesOwn.never rfl (pi_list (pv 0)) (pg_name (i := 2) scNumberOf.nd rfl (Or.inl rfl))
        (pss_cons (ps_if (pt_not (pt_chain op_le op_le (pe_num T.digit0 rfl) (pv 2) (pe_num T.digit9 rfl))) (pss_one (ps_ret pe_non)) pss_nil)
        (pss_one (ps_set (i := 1) scNumberOf.nd rfl (Or.inl rfl) (pe_callB (call_min2 rfl) rfl T.min boot_min (pa_cons (pe_op op_sub (pe_op op_add (pe_op op_mul (pv 1) pe_int) (pv 2)) (pe_num T.digit0 rfl)) (pa_cons (pe_num T.above rfl) pa_nil)))))))
      (pss_one (ps_ret (pv 1))))), ?_⟩
    obtain ⟨a, b, rfl, hS, hlen, k⟩ := h
    have bad : decimalOf b = none → Q V.non H := fun e => by rw [e] at k; exact k
    have hlen2 : (decide ((1 : Int) < ((bI b).length : Int))) = decide (1 < b.length) := by
      rw [List.length_map]
      exact decide_eq_decide.mpr (by omega)
    refine seq_if (b := !(!b.isEmpty) || (decide (b.head? = some 0x30) && decide (1 < b.length))) (is_or (is_not (b := !b.isEmpty) fun Q q => ⟨_, rfl, _, Or.inl ⟨_, hS, by rw [List.isEmpty_map]⟩, q⟩) fun e => is_and (b := decide (b.head? = some 0x30)) (fun Q q => ?_) fun _ Q q => ?_) (fun e => ?_) (fun e => ?_)
    · -- the first sign
      cases b with
      | nil => cases e
      | cons c r =>
        refine ⟨_, rfl, a, _, 0, .int (c.toNat : Int), rfl, rfl, hS, atI_nat (j := 0) rfl, rfl, _, rfl, ?_⟩
        have : decide (V.int (c.toNat : Int) = V.int 48) = decide ((c :: r).head? = some 0x30) := decide_eq_decide.mpr (by
          rw [List.head?_cons, Option.some.injEq]
          exact int_eq (m := 0x30))
        rw [this]
        exact q
    · refine ⟨_, rfl, a, _, rfl, .inl hS, _, _, rfl, rfl, _, rfl, ?_⟩
      rw [hlen2]
      exact q
    · refine bad ?_
      cases b with
      | nil => exact decimal_nil
      | cons c r =>
        have e : (decide ((c :: r).head? = some 0x30) && decide (1 < (c :: r).length)) = true := e
        rw [Bool.and_eq_true, decide_eq_true_eq, decide_eq_true_eq] at e
        exact decimal_zero e.1 e.2
    · have hne : b ≠ [] ∧ ¬ (b.head? = some 0x30 ∧ 1 < b.length) := by
        rw [Bool.or_eq_false_iff] at e
        refine ⟨?_, fun z => ?_⟩
        · rintro rfl
          cases e.1
        · have := e.2
          rw [decide_eq_true z.1, decide_eq_true z.2] at this
          cases this
      refine ⟨_, rfl, a, rfl, ⟨bI b, hS⟩, ?_⟩
      refine for_list (xs := bI b) (fun i σ Hc => Hc = H ∧ (∃ v2 : Option V, σ = [some (.ref a), some (.int (cap (decF (b.take i)) : Nat)), v2]) ∧ (b.take i).all dig = true) ⟨rfl, ⟨none, rfl⟩, rfl⟩ (fun i σ Hc _ p => by rw [p.1]; exact hS) ?_ ?_
      · rintro i x σ Hc hx ⟨rfl, ⟨v2, rfl⟩, hd⟩
        obtain ⟨c, hc, rfl⟩ := bI_get hx
        have etk := take_more hc
        refine gname ?_
        refine seq_if (b := !(decide ((48 : Int) ≤ (c.toNat : Int)) && decide ((c.toNat : Int) ≤ 57))) (is_not (is_chain (x := 48) (y := (c.toNat : Int)) (z := 57) rfl rfl ie_c (ie_v rfl) ie_c)) (fun e => ?_) (fun e => ?_)
        · refine bad (decimal_bad ?_)
          have hc' : dig c = false := by
            have e : (decide ((48 : Int) ≤ (c.toNat : Int)) && decide ((c.toNat : Int) ≤ 57)) = false := by simpa only [Bool.not_eq_true'] using e
            rw [← e]
            exact congr (congrArg and (decide_eq_decide.mpr (by omega))) (decide_eq_decide.mpr (by omega))
          rw [Bool.eq_false_iff]
          intro h
          rw [List.all_eq_true] at h
          rw [h c (List.mem_of_getElem? hc)] at hc'
          cases hc'
        · have e : (decide ((48 : Int) ≤ (c.toNat : Int)) && decide ((c.toNat : Int) ≤ 57)) = true := by simpa only [Bool.not_eq_false'] using e
          rw [Bool.and_eq_true, decide_eq_true_eq, decide_eq_true_eq] at e
          have hc' : dig c = true := by
            unfold dig
            rw [decide_eq_true (show 48 ≤ c.toNat by omega), decide_eq_true (show c.toNat ≤ 57 by omega)]
            rfl
          have hcap : cap (decF (b.take i)) ≤ 65536 := Nat.min_le_right _ _
          have val : IsE (tOp (rI0 fun i j => V.int (i - j)) (tOp (rI0 fun i j => V.int (i + j)) (tOp (rI CMul fun i j => V.int (i * j)) (tVar 1) (tC (V.int 10))) (tVar 2)) (tC (V.int 48))) [some (V.ref a), some (V.int (cap (decF (b.take i)) : Nat)), some (V.int (c.toNat : Int))] Hc (.int ((cap (decF (b.take i)) : Nat) * 10 + (c.toNat : Int) - 48)) :=
            ie_i0 (ie_i0 (ie_i (ie_v rfl) ie_c (.inr ⟨by decide, by decide⟩)) (ie_v rfl)) ie_c
          refine val _ ?_
          refine ⟨_, _, rfl, ?_⟩
          refine ⟨rfl, ⟨some (.int (c.toNat : Int)), ?_⟩, ?_⟩
          · rw [etk, decF_snoc, ← cap_step]
            show [_, _, _] = [_, _, _]
            have : (if (65536 : Int) < ((cap (decF (b.take i)) : Nat) * 10 + (c.toNat : Int) - 48) then (65536 : Int) else ((cap (decF (b.take i)) : Nat) * 10 + (c.toNat : Int) - 48)) = ((cap (cap (decF (b.take i)) * 10 + (c.toNat - 0x30)) : Nat) : Int) := by
              generalize cap (decF (b.take i)) = n
              unfold cap TOP
              split <;> omega
            rw [this]
          · rw [etk, List.all_append, hd]
            show (true && (dig c && true)) = true
            rw [hc']
            rfl
      · rintro σ Hc ⟨rfl, ⟨v2, rfl⟩, hd⟩
        rw [List.length_map, List.take_length] at *
        refine ⟨_, rfl, ?_⟩
        rw [decimal_good hne.1 hne.2 hd] at k
        exact k
end Say
set_option Elab.async false
set_option linter.all false
set_option maxRecDepth 100000
set_option maxHeartbeats 400000
namespace Say
open PySem PySem.Spec PyProof.Rows L2
open SyBase SyLex SyWays
variable {P : Program} {w : World} {K : PySem.W.Frag} {mg : Str → Option Value} {base : Heap}
/-- a number or None -/
def optV : Option Nat → V
  | none => .non
  | some n => .int (n : Nat)
theorem tail_bad : ∀ {b : Bytes} {n i : Nat} {c : UInt8}, b[i]? = some c → ¬ (0x80 ≤ c.toNat ∧ c.toNat < 0xC0) → tailGo n b = none
  | [], _, _, _, h, _ => by simp at h
  | d :: r, n, 0, c, h, g => by
    cases h
    rw [tailGo, if_neg g]
  | d :: r, n, i + 1, c, h, g => by
    rw [tailGo]
    split
    · exact tail_bad (i := i) h g
    · rfl
theorem tail_snoc : ∀ {b : Bytes} {n v : Nat} {c : UInt8}, tailGo n b = some v → (0x80 ≤ c.toNat ∧ c.toNat < 0xC0) → tailGo n (b ++ [c]) = some (v * 64 + (c.toNat - 0x80))
  | [], n, v, c, h, g => by
    cases h
    show tailGo n [c] = _
    rw [tailGo, if_pos g]
    rfl
  | d :: r, n, v, c, h, g => by
    rw [tailGo] at h
    rw [List.cons_append, tailGo]
    split
    · rename_i q
      rw [if_pos q] at h
      exact tail_snoc h g
    · rename_i q
      rw [if_neg q] at h
      cases h
theorem tail_bound : ∀ {b : Bytes} {n v : Nat}, tailGo n b = some v → v < (n + 1) * 64 ^ b.length
  | [], n, v, h => by
    cases h
    simp
  | d :: r, n, v, h => by
    rw [tailGo] at h
    split at h
    · rename_i q
      have := tail_bound h
      rw [List.length_cons, Nat.pow_succ, Nat.mul_comm (64 ^ r.length), ← Nat.mul_assoc]
      exact Nat.lt_of_lt_of_le this (Nat.mul_le_mul_right _ (by omega))
    · cases h
/-- with_tail -/
def spWithTail (K : PySem.W.Frag) : Sp := fun vs H Q _ => ∃ (n : Nat) (a : Addr) (b : Bytes), vs = [.int (n : Nat), .ref a] ∧ SqL K H a (bI b) ∧ b.length ≤ 100000 ∧ Q (optV (tailGo n b)) H
theorem scWithTail : FnScope ["head", "tail", "number", "octet"] ["head", "tail"] (defScope sWithTail) := ⟨rfl, rfl, rfl, by decide +kernel, rfl, by decide +kernel, by decide +kernel⟩
theorem ok_withTail {f : Addr} {fd : FuncData} (F : Fun K "with_tail" "with_tail" sWithTail f fd) : FnOk P w K mg base CX0 1 f fd ["head", "tail"] (spWithTail K) := by
  refine F.ok scWithTail (fun vs H Q E h => ?_) (fun cdv A outer s H vs Q E hr h => ?_)
  · obtain ⟨n, a, b, rfl, _⟩ := h
    rfl
  · refine ⟨_, pss_cons (ps_set (i := 2) scWithTail.nd rfl (Or.inl rfl) (pv 0))
      (pss_cons (ps_for PassesOwn.never rfl (pi_list (pv 1)) (pg_name (i := 3) scWithTail.nd rfl (Or.inl rfl))
        (pss_cons (ps_if (pt_not (pt_chain op_le op_lt pe_int (pv 3) pe_int)) (pss_one (ps_ret pe_non)) pss_nil)
        (pss_one (ps_set (i := 2) scWithTail.nd rfl (Or.inl rfl) (pe_op op_sub (pe_op op_add (pe_op op_mul (pv 2) pe_int) (pv 3)) pe_int)))))
      (pss_one (ps_ret (pv 2)))), ?_⟩
    obtain ⟨n, a, b, rfl, hS, hlen, k⟩ := h
    refine ⟨_, rfl, ?_⟩
    refine gname ?_
    refine ⟨_, rfl, a, rfl, ⟨bI b, hS⟩, ?_⟩
    refine for_list (xs := bI b) (fun i σ Hc => Hc = H ∧ (∃ (v3 : Option V) (m : Nat), σ = [some (.int (n : Nat)), some (.ref a), some (.int (m : Nat)), v3] ∧ tailGo n (b.take i) = some m)) ⟨rfl, none, n, rfl, rfl⟩ (fun i σ Hc _ p => by rw [p.1]; exact hS) ?_ ?_
    · rintro i x σ Hc hx ⟨rfl, v3, m, rfl, ht⟩
      obtain ⟨c, hc, rfl⟩ := bI_get hx
      have etk := take_more hc
      refine gname ?_
      refine seq_if (b := !(decide ((128 : Int) ≤ (c.toNat : Int)) && decide ((c.toNat : Int) < 192))) (is_not (is_chain (x := 128) (y := (c.toNat : Int)) (z := 192) rfl rfl ie_c (ie_v rfl) ie_c)) (fun e => ?_) (fun e => ?_)
      · have e : (decide ((128 : Int) ≤ (c.toNat : Int)) && decide ((c.toNat : Int) < 192)) = false := by simpa only [Bool.not_eq_true'] using e
        have : tailGo n b = none := tail_bad hc (fun z => by
          rw [decide_eq_true (by omega), decide_eq_true (by omega)] at e
          cases e)
        rw [this] at k
        exact k
      · have e : (decide ((128 : Int) ≤ (c.toNat : Int)) && decide ((c.toNat : Int) < 192)) = true := by simpa only [Bool.not_eq_false'] using e
        rw [Bool.and_eq_true, decide_eq_true_eq, decide_eq_true_eq] at e
        have val : IsE (tOp (rI0 fun i j => V.int (i - j)) (tOp (rI0 fun i j => V.int (i + j)) (tOp (rI CMul fun i j => V.int (i * j)) (tVar 2) (tC (V.int 64))) (tVar 3)) (tC (V.int 128))) [some (V.int (n : Nat)), some (V.ref a), some (V.int (m : Nat)), some (V.int (c.toNat : Int))] Hc (.int ((m : Nat) * 64 + (c.toNat : Int) - 128)) :=
          ie_i0 (ie_i0 (ie_i (ie_v rfl) ie_c (.inr ⟨by decide, by decide⟩)) (ie_v rfl)) ie_c
        refine val _ (gname ?_)
        refine ⟨rfl, some (.int (c.toNat : Int)), m * 64 + (c.toNat - 0x80), ?_, ?_⟩
        · show [_, _, _, _] = [_, _, _, _]
          have : ((m : Nat) * 64 + (c.toNat : Int) - 128) = ((m * 64 + (c.toNat - 0x80) : Nat) : Int) := by omega
          rw [this]
        · rw [etk]
          exact tail_snoc ht (by omega)
    · rintro σ Hc ⟨rfl, v3, m, rfl, ht⟩
      rw [List.length_map, List.take_length] at ht
      refine ⟨_, rfl, ?_⟩
      rw [ht] at k
      exact k
/-- is_character -/
def spIsCharacter : Sp := fun vs H Q _ => ∃ (n : Nat), vs = [.int (n : Nat)] ∧ Q (.bl (isCh n)) H
theorem scIsCharacter : FnScope ["number"] ["number"] (defScope sIsCharacter) := ⟨rfl, rfl, rfl, by decide +kernel, rfl, by decide +kernel, by decide +kernel⟩
theorem ok_isCharacter {f : Addr} {fd : FuncData} (F : Fun K "is_character" "is_character" sIsCharacter f fd) : FnOk P w K mg base CX0 1 f fd ["number"] spIsCharacter := by
  refine F.ok scIsCharacter (fun vs H Q E h => ?_) (fun cdv A outer s H vs Q E hr h => ?_)
  · obtain ⟨n, rfl, _⟩ := h
    rfl
  · refine ⟨_, pss_one (ps_ret (pe_and (pe_cmpR op_lt (pv 0) pe_int (nomark _)) (pe_one (pe_not (pe_chain op_le op_le pe_int (pv 0) pe_int))))), ?_⟩
    obtain ⟨n, rfl, k⟩ := h
    refine ret_is (ie_and (b := decide ((n : Int) < 1114112)) (ie_i0 (ie_v rfl) ie_c) fun _ => ie_not (ie_chain (x := 55296) (y := n) (z := 57343) rfl rfl ie_c (ie_v rfl) ie_c)) ?_
    have e : (decide ((n : Int) < 1114112) && !(decide ((55296 : Int) ≤ (n : Int)) && decide ((n : Int) ≤ 57343))) = isCh n := by
      unfold isCh
      rw [show decide ((n : Int) < 1114112) = decide (n < 0x110000) from decide_eq_decide.mpr (by omega), show decide ((55296 : Int) ≤ (n : Int)) = decide (0xD800 ≤ n) from decide_eq_decide.mpr (by omega), show decide ((n : Int) ≤ 57343) = decide (n ≤ 0xDFFF) from decide_eq_decide.mpr (by omega)]
    rw [e]
    exact k
/-- may_stand_in_word -/
def spMayStand : Sp := fun vs H Q _ => ∃ (n : Nat), vs = [.int (n : Nat)] ∧ Q (.bl (mayStand n)) H
theorem scMayStand : FnScope ["character"] ["character"] (defScope sMayStand) := ⟨rfl, rfl, rfl, by decide +kernel, rfl, by decide +kernel, by decide +kernel⟩
theorem ok_mayStand {f : Addr} {fd : FuncData} (F : Fun K "may_stand_in_word" "may_stand_in_word" sMayStand f fd) : FnOk P w K mg base CX0 1 f fd ["character"] spMayStand := by
  refine F.ok scMayStand (fun vs H Q E h => ?_) (fun cdv A outer s H vs Q E hr h => ?_)
  · obtain ⟨n, rfl, _⟩ := h
    rfl
  · refine ⟨_, pss_one (ps_ret (pe_and (pe_cmpR op_gt (pv 0) pe_int (nomark _)) (pe_one (pe_cmpR op_ne (pv 0) pe_int (nomark _))))), ?_⟩
    obtain ⟨n, rfl, k⟩ := h
    refine ret_is (ie_and (b := decide ((32 : Int) < (n : Int))) (ie_i0 (ie_v rfl) ie_c) fun _ => ie_neI (ie_v rfl) ie_c) ?_
    have e : (decide ((32 : Int) < (n : Int)) && !(decide ((n : Int) = 127))) = mayStand n := by
      unfold mayStand
      rw [show decide ((32 : Int) < (n : Int)) = decide (0x20 < n) from decide_eq_decide.mpr (by omega), show decide ((n : Int) = 127) = decide (n = 0x7F) from decide_eq_decide.mpr (by omega)]
      rfl
    rw [e]
    exact k
end Say
set_option Elab.async false
set_option linter.all false
set_option maxRecDepth 100000
set_option maxHeartbeats 400000
namespace Say
open PySem PySem.Spec PyProof.Rows L2
open SyBase SyLex SyWays
variable {P : Program} {w : World} {K : PySem.W.Frag} {mg : Str → Option Value} {base : Heap}
/-- a tuple of the module's own -/
def KT (K : PySem.W.Frag) (a : Addr) (xs : List V) : Prop := ∃ (o : Obj) (its : Array Value) (n : Nat), K.lookup a = some o ∧ o.cls = .type "tuple" ∧ o.data = .seq its n ∧ its.size ≤ sizeLine ∧ Vals xs its.toList
theorem KT.t {a : Addr} {xs : List V} {H : Hp} (h : KT K a xs) : SqT K H a xs := .inr h
def formV (f : Form) : List V := [.int (f.lead : Nat), .int (f.bound : Nat), .int (f.behind : Nat), .int (f.least : Nat)]
def HasForms (mg : Str → Option Value) (K : PySem.W.Frag) : Prop := ∃ (fa : Addr) (as : List Addr), mg "FORMS" = some (.ref fa) ∧ KT K fa (as.map V.ref) ∧ Paired (fun a f => KT K a (formV f)) as FORMS
theorem paired_get {α β : Type} {F : α → β → Prop} : ∀ {xs : List α} {ys : List β} {i : Nat} {x : α}, Paired F xs ys → xs[i]? = some x → ∃ y, ys[i]? = some y ∧ F x y
  | _, _, _, _, .nil, h => by simp at h
  | _, _, 0, _, .cons h t, e => by cases e; exact ⟨_, rfl, h⟩
  | _, _, i + 1, _, .cons h t, e => paired_get (i := i) t e
theorem forms_drop {j : Nat} {f : Form} (h : FORMS[j]? = some f) : FORMS.drop j = f :: FORMS.drop (j + 1) := by
  obtain ⟨lt, rfl⟩ := List.getElem?_eq_some_iff.mp h
  exact List.drop_eq_getElem_cons lt
def spCharacterAt (K : PySem.W.Frag) : Sp := fun vs H Q _ => ∃ (a : Addr) (b : Bytes) (i : Nat), vs = [.ref a, .int (i : Nat)] ∧ SqL K H a (bI b) ∧ b.length ≤ 100000 ∧ i < b.length ∧
  (charAt (b.drop i) = none → ∀ H', Same H H' → Q .non H') ∧ ∀ c n, charAt (b.drop i) = some (c, n) → ∀ H' p, Same H H' → H' p = some (.tup [.int (c : Nat), .int ((i + n : Nat))]) → Q (.ref p) H'
theorem scCharacterAt : FnScope ["octets", "place", "first", "lead", "bound", "behind", "least", "end", "character"] ["octets", "place"] (defScope sCharacterAt) := ⟨rfl, rfl, rfl, by decide +kernel, rfl, by decide +kernel, by decide +kernel⟩
theorem ok_characterAt {f : Addr} {fd : FuncData} (F : Fun K "character_at" "character_at" sCharacterAt f fd) (T : Glob mg) (hF : HasForms mg K)
    (h1 : Has P w K mg base CX0 1 "with_tail" ["head", "tail"] (spWithTail K)) (h2 : Has P w K mg base CX0 1 "is_character" ["number"] spIsCharacter) :
    FnOk P w K mg base CX0 2 f fd ["octets", "place"] (spCharacterAt K) := by
  obtain ⟨f1, fd1, G1, m1, k1, b1⟩ := h1
  obtain ⟨f2, fd2, G2, m2, k2, b2⟩ := h2
  obtain ⟨fa, as, mF, kF, pF⟩ := hF
  refine F.ok scCharacterAt (fun vs H Q E h => ?_) (fun cdv A outer s H vs Q E hr h => ?_)
  · obtain ⟨a, b, i, rfl, _⟩ := h
    rfl
  · refine ⟨_, pss_cons (ps_set (i := 2) scCharacterAt.nd rfl (Or.inl rfl) (pe_ix ix_list (pv 0) (pv 1) (fun _ _ => rfl)))
      (pss_cons (ps_for PassesOwn.never rfl (pi_tup (pe_glob rfl mF (v := .ref fa) rfl)) (pg_tup rfl (pgs_cons (pg_name (i := 3) scCharacterAt.nd rfl (Or.inl rfl)) (pgs_cons (pg_name (i := 4) scCharacterAt.nd rfl (Or.inl rfl)) (pgs_cons (pg_name (i := 5) scCharacterAt.nd rfl (Or.inl rfl)) (pgs_cons (pg_name (i := 6) scCharacterAt.nd rfl (Or.inl rfl)) pgs_nil)))))
        (pss_one (ps_if (pt_chain op_le op_lt (pv 3) (pv 2) (pv 4))
          (pss_cons (ps_set (i := 7) scCharacterAt.nd rfl (Or.inl rfl) (pe_op op_add (pe_op op_add (pv 1) pe_int) (pv 5)))
          (pss_cons (ps_set (i := 8) scCharacterAt.nd rfl (Or.inl rfl) (pe_call G1 hr rfl m1 k1 b1 .nil pass0 (pa_cons (pe_op op_sub (pv 2) (pv 3)) (pa_cons (pe_slice sl_list (pv 0) (po_some (pe_op op_add (pv 1) pe_int)) (po_some (pv 7))) pa_nil))))
          (pss_one (ps_if (PW.pt (pw_and (pt_cmpR op_le (pv 7) (pe_callB call_len_seq rfl T.len PySem.boot_len (pa_cons (pv 0) pa_nil)) (nomark _))
              (pw_and (pt_cmp (pc_notN (pv 8)))
              (pw_and (pt_cmpR op_ge (pv 8) (pv 6) (nomark _))
              (pw_and1 (pt_val (pe_call G2 hr rfl m2 k2 b2 .nil pass0 (pa_cons (pv 8) pa_nil))))))))
            (pss_one (ps_ret (pe_tup (pa_cons (pv 8) (pa_cons (pv 7) pa_nil))))) pss_nil))))
          pss_nil)))
      (pss_one (ps_ret pe_non))), ?_⟩
    obtain ⟨a, b, i, rfl, hS, hlen, hi, kn, ks⟩ := h
    have hc0 : b[i]? = some b[i] := List.getElem?_eq_getElem hi
    have edrop : b.drop i = b[i] :: b.drop (i + 1) := List.drop_eq_getElem_cons hi
    generalize b[i] = c0 at hc0 edrop
    refine ⟨_, rfl, _, rfl, a, bI b, i, .int (c0.toNat : Int), rfl, rfl, hS, atI_nat (by rw [List.getElem?_map, hc0]; rfl), ?_⟩
    refine gname ?_
    refine ⟨fa, rfl, ⟨_, kF.t⟩, ?_⟩
    refine for_tup (xs := as.map V.ref) (fun j σ Hc => Same H Hc ∧ formsGo (FORMS.drop j) (b.drop i) = charAt (b.drop i) ∧ ∃ v3 v4 v5 v6 v7 v8 : Option V, σ = [some (.ref a), some (.int (i : Nat)), some (.int (c0.toNat : Int)), v3, v4, v5, v6, v7, v8])
      ⟨Same.refl _, rfl, none, none, none, none, none, none, rfl⟩ (fun j σ Hc _ p => kF.t) ?_ ?_
    · rintro j x σ Hc hx ⟨sm, hg, v3, v4, v5, v6, v7, v8, rfl⟩
      rw [List.getElem?_map] at hx
      cases ej : as[j]? with
      | none => rw [ej] at hx; cases hx
      | some aj =>
        rw [ej] at hx
        cases hx
        obtain ⟨fo, hfo, kfo⟩ := paired_get pF ej
        rw [forms_drop hfo, formsGo] at hg
        have etry : fo.tryAt (b.drop i) = if fo.lead ≤ c0.toNat ∧ c0.toNat < fo.bound then (match tailGo (c0.toNat - fo.lead) ((b.drop (i + 1)).take fo.behind) with
          | some v => if 1 + fo.behind ≤ (b.drop i).length ∧ fo.least ≤ v ∧ isCh v = true then some (v, 1 + fo.behind) else none
          | none => none) else none := by rw [edrop]; rfl
        have next : fo.tryAt (b.drop i) = none → formsGo (FORMS.drop (j + 1)) (b.drop i) = charAt (b.drop i) := fun e => by rw [e] at hg; exact hg
        refine ⟨aj, formV fo, rfl, kfo.t, rfl, _, _, rfl, gname ⟨_, _, rfl, gname ⟨_, _, rfl, gname ⟨_, _, rfl, gname ⟨rfl, ?_⟩⟩⟩⟩⟩
        refine if_is (b := decide ((fo.lead : Int) ≤ (c0.toNat : Int)) && decide ((c0.toNat : Int) < (fo.bound : Int))) (is_chain rfl rfl (ie_v rfl) (ie_v rfl) (ie_v rfl)) (fun e => ?_) (fun e => ?_)
        · rw [Bool.and_eq_true, decide_eq_true_eq, decide_eq_true_eq] at e
          rw [if_pos (show fo.lead ≤ c0.toNat ∧ c0.toNat < fo.bound by omega)] at etry
          have hend : IsE (tOp (rI0 fun i j => V.int (i + j)) (tOp (rI0 fun i j => V.int (i + j)) (tVar 1) (tC (V.int 1))) (tVar 5)) [some (.ref a), some (.int (i : Nat)), some (.int (c0.toNat : Int)), some (.int (fo.lead : Nat)), some (.int (fo.bound : Nat)), some (.int (fo.behind : Nat)), some (.int (fo.least : Nat)), v7, v8] Hc (.int ((i + 1 + fo.behind : Nat))) :=
            ie_cast (ie_i0 (x := (i : Nat) + 1) (y := (fo.behind : Nat)) (ie_i0 (x := (i : Nat)) (y := 1) (ie_v rfl) ie_c) (ie_v rfl)) (by rw [show ((i : Nat) : Int) + 1 + (fo.behind : Nat) = ((i + 1 + fo.behind : Nat) : Int) by omega])
          refine seq_set hend ?_
          refine seq_asg (call_of (arg_is (ie_cast (v' := .int ((c0.toNat - fo.lead : Nat))) (ie_i0 (x := (c0.toNat : Int)) (y := (fo.lead : Nat)) (ie_v rfl) (ie_v rfl)) (by rw [show (c0.toNat : Int) - (fo.lead : Nat) = ((c0.toNat - fo.lead : Nat) : Int) by omega])) ?_))
          refine sl_is (lo := i + 1) (hi := i + 1 + fo.behind) (ie_v rfl) (ie_i0 (x := (i : Nat)) (y := 1) (ie_v rfl) ie_c) (ie_v rfl) (sm.seq hS) (fun p np => ?_)
          refine ⟨_, p, _, rfl, .inl (.inl upd_same), by rw [List.length_drop, List.length_take]; omega, ?_⟩
          have sm2 : Same H (upd Hc p (.lst (bI ((b.take (i + 1 + fo.behind)).drop (i + 1))))) := same_new sm np
          generalize upd Hc p (.lst (bI ((b.take (i + 1 + fo.behind)).drop (i + 1)))) = H2 at sm2
          have ecut : (b.take (i + 1 + fo.behind)).drop (i + 1) = (b.drop (i + 1)).take fo.behind := by rw [List.drop_take]; congr 1; omega
          rw [ecut]
          show tIfS _ _ _ _ _ _
          have hle : IsE (tOp (rI0 fun i j => V.bl (decide (i ≤ j))) (tVar 7) (tCB (fun xs H Q => ∃ p ys, xs = [V.ref p] ∧ (SqL K H p ys ∨ SqT K H p ys) ∧ Q (V.int (ys.length : Nat)) H) (tCons (tVar 0) tNil)))
            [some (.ref a), some (.int (i : Nat)), some (.int (c0.toNat : Int)), some (.int (fo.lead : Nat)), some (.int (fo.bound : Nat)), some (.int (fo.behind : Nat)), some (.int (fo.least : Nat)), some (.int ((i + 1 + fo.behind : Nat))), some (optV (tailGo (c0.toNat - fo.lead) ((b.drop (i + 1)).take fo.behind)))] H2 (.bl (decide (((i + 1 + fo.behind : Nat) : Int) ≤ ((bI b).length : Nat)))) :=
            ie_i0 (ie_v rfl) (ie_len (ie_v rfl) (sm2.seq hS))
          have elen : ((bI b).length : Nat) = b.length := List.length_map _
          rw [elen] at hle
          have go : fo.tryAt (b.drop i) = none → Same H H2 ∧ formsGo (FORMS.drop (j + 1)) (b.drop i) = charAt (b.drop i) ∧ ∃ v3' v4' v5' v6' v7' v8' : Option V, [some (.ref a), some (.int (i : Nat)), some (.int (c0.toNat : Int)), some (.int (fo.lead : Nat)), some (.int (fo.bound : Nat)), some (.int (fo.behind : Nat)), some (.int (fo.least : Nat)), some (.int ((i + 1 + fo.behind : Nat))), some (optV (tailGo (c0.toNat - fo.lead) ((b.drop (i + 1)).take fo.behind)))] = [some (.ref a), some (.int (i : Nat)), some (.int (c0.toNat : Int)), v3', v4', v5', v6', v7', v8'] :=
            fun e => ⟨sm2, next e, _, _, _, _, _, _, rfl⟩
          cases et : tailGo (c0.toNat - fo.lead) ((b.drop (i + 1)).take fo.behind) with
          | none =>
            rw [et] at etry hle go
            refine if_is (b := decide (((i + 1 + fo.behind : Nat) : Int) ≤ (b.length : Nat)) && (false && true)) (is_and (is_test hle) fun _ => is_and (b := false) (c := true) (is_tB (ie_notN (v := .non) (ie_v rfl))) (fun e => by cases e)) (fun e => ?_) (fun _ => go etry)
            simp at e
          | some v =>
            rw [et] at etry hle go
            have etry : fo.tryAt (b.drop i) = if 1 + fo.behind ≤ (b.drop i).length ∧ fo.least ≤ v ∧ isCh v = true then some (v, 1 + fo.behind) else none := etry
            refine if_is (b := decide (((i + 1 + fo.behind : Nat) : Int) ≤ (b.length : Nat)) && (true && (decide ((fo.least : Int) ≤ (v : Int)) && isCh v))) (is_and (is_test hle) fun _ => is_and (b := true) (is_tB (ie_notN (v := .int (v : Nat)) (ie_v rfl))) fun _ => is_and (is_cmp (x := (v : Nat)) (y := (fo.least : Nat)) rfl (ie_v rfl) (ie_v rfl)) fun _ => is_call1 (ie_v rfl) fun Q q => ⟨v, rfl, q⟩) (fun e => ?_) (fun e => ?_)
            · simp only [Bool.true_and, Bool.and_eq_true, decide_eq_true_eq] at e
              rw [if_pos ⟨by rw [List.length_drop]; omega, by omega, e.2.2⟩] at etry
              rw [etry] at hg
              refine ret_tup2 (ie_v rfl) (ie_v rfl) (fun t nt => ?_)
              refine ks v (1 + fo.behind) hg.symm _ t (same_new sm2 nt) ?_
              rw [upd_same, show i + 1 + fo.behind = i + (1 + fo.behind) by omega]
              rfl
            · refine go ?_
              rw [etry, if_neg]
              rintro ⟨z1, z2, z3⟩
              rw [List.length_drop] at z1
              rw [decide_eq_true (by omega), decide_eq_true (by omega), z3] at e
              cases e
        · refine ⟨sm, next ?_, _, _, _, _, _, _, rfl⟩
          rw [etry, if_neg]
          intro z
          rw [decide_eq_true (by omega), decide_eq_true (by omega)] at e
          cases e
    · rintro σ Hc ⟨sm, hg, v3, v4, v5, v6, v7, v8, rfl⟩
      have : as.length = 4 := Paired.length pF
      rw [List.length_map, this] at hg
      exact kn hg.symm Hc sm
end Say
set_option Elab.async false
set_option linter.all false
set_option maxRecDepth 100000
set_option maxHeartbeats 400000
namespace Say
open PySem PySem.Spec PyProof.Rows L2
open SyBase SyLex SyWays
variable {P : Program} {w : World} {K : PySem.W.Frag} {mg : Str → Option Value} {base : Heap}
/-- characters as they stand in a list -/
abbrev tI (t : Text) : List V := t.map fun c => V.int (c : Nat)
def spCharactersOf (K : PySem.W.Frag) : Sp := fun vs H Q _ => ∃ (a : Addr) (b : Bytes), vs = [.ref a] ∧ SqL K H a (bI b) ∧ b.length ≤ 100000 ∧
  (chars b = none → ∀ H', Same H H' → Q .non H') ∧ ∀ t, chars b = some t → ∀ H' p, Same H H' → H p = none → H' p = some (.lst (tI t)) → Q (.ref p) H'
theorem scCharactersOf : FnScope ["octets", "characters", "place", "found", "character"] ["octets"] (defScope sCharactersOf) := ⟨rfl, rfl, rfl, by decide +kernel, rfl, by decide +kernel, by decide +kernel⟩
def leftOf (n : Nat) (σ : L2.St) : Nat := match σ[2]? with
  | some (some (V.int i)) => n - i.toNat
  | _ => 0
theorem ok_charactersOf {f : Addr} {fd : FuncData} (F : Fun K "characters_of" "characters_of" sCharactersOf f fd) (T : Glob mg) (h1 : Has P w K mg base CX0 2 "character_at" ["octets", "place"] (spCharacterAt K)) :
    FnOk P w K mg base CX0 3 f fd ["octets"] (spCharactersOf K) := by
  obtain ⟨f1, fd1, G1, m1, k1, b1⟩ := h1
  refine F.ok scCharactersOf (fun vs H Q E h => ?_) (fun cdv A outer s H vs Q E hr h => ?_)
  · obtain ⟨a, b, rfl, _⟩ := h
    rfl
  · refine ⟨_, pss_cons (ps_set (i := 1) scCharactersOf.nd rfl (Or.inl rfl) (pe_lst pa_nil))
      (pss_cons (ps_set (i := 2) scCharactersOf.nd rfl (Or.inl rfl) pe_int)
      (pss_cons (ps_while PassesOwn.never (pt_cmpR op_lt (pv 2) (pe_callB call_len_seq rfl T.len PySem.boot_len (pa_cons (pv 0) pa_nil)) (nomark _))
        (pss_cons (ps_set (i := 3) scCharactersOf.nd rfl (Or.inl rfl) (pe_call G1 hr rfl m1 k1 b1 .nil pass0 (pa_cons (pv 0) (pa_cons (pv 2) pa_nil))))
        (pss_cons (ps_if (pt_cmp (pc_isN (pv 3))) (pss_one (ps_ret pe_non)) pss_nil)
        (pss_cons (ps_asg (pv 3) (pg_tup rfl (pgs_cons (pg_name (i := 4) scCharactersOf.nd rfl (Or.inl rfl)) (pgs_cons (pg_name (i := 2) scCharactersOf.nd rfl (Or.inl rfl)) pgs_nil))))
        (pss_one (ps_expr (pe_bm PySem.F.plainAttrs_list PySem.F.slot_list_append PySem.F.type_list_append mt_append (pv 1) (pa_cons (pv 4) pa_nil))))))))
      (pss_one (ps_ret (pv 1))))), ?_⟩
    obtain ⟨a, b, rfl, hS, hlen, kn, ks⟩ := h
    refine ⟨by show 0 ≤ sizeLine; decide, fun p np => ?_⟩
    refine gname ?_
    refine seq_set ie_c ?_
    refine while_by (fun σ Hc => ∃ (i : Nat) (pre : Text) (v3 v4 : Option V), σ = [some (.ref a), some (.ref p), some (.int (i : Nat)), v3, v4] ∧ i ≤ b.length ∧ pre.length ≤ i ∧ Same H Hc ∧ Hc p = some (.lst (tI pre)) ∧ chars b = (chars (b.drop i)).map (pre ++ ·)) (fun σ _ => leftOf b.length σ)
      ⟨0, [], none, none, rfl, Nat.zero_le _, Nat.le_refl _, same_upd np, upd_same, by rw [List.drop_zero]; cases chars b <;> rfl⟩ ?_ ?_
    · rintro σ Hc ⟨i, pre, v3, v4, rfl, hi, hpre, sm, hp, hch⟩
      refine is_cmp (x := (i : Nat)) (y := ((bI b).length : Nat)) rfl (ie_v rfl) (ie_len (ie_v rfl) (sm.seq hS)) _ ?_
      rw [List.length_map]
      by_cases lt : i < b.length
      · refine if_true_of (decide_eq_true (by omega)) ?_
        refine seq_asg (call_of (arg_is (ie_v rfl) (arg_is (ie_v rfl) ?_)))
        refine ⟨a, b, i, rfl, sm.seq hS, hlen, lt, fun e H2 sm2 => ?_, fun c n e H2 q sm2 hq => ?_⟩
        · refine seq_if (b := true) (is_tB (ie_isN (v := .non) (ie_v rfl))) (fun _ => ?_) (fun z => by cases z)
          have : b.drop i ≠ [] := fun z => by
            have := congrArg List.length z
            rw [List.length_drop] at this
            simp at this
            omega
          rw [chars_none this e] at hch
          exact kn hch H2 (sm.trans sm2)
        · refine seq_if (b := false) (is_tB (ie_isN (v := .ref q) (ie_v rfl))) (fun z => by cases z) (fun _ => ?_)
          have ps := charAt_pos e
          rw [List.length_drop] at ps
          have hp2 : H2 p = some (.lst (tI pre)) := sm2 p _ hp
          refine ⟨_, rfl, q, _, rfl, .inl (.inl hq), rfl, _, _, rfl, gname ⟨_, _, rfl, gname ⟨rfl, ?_⟩⟩⟩
          refine ⟨_, rfl, Or.inl ⟨rfl, _, .inl (.inl hp2)⟩, _, rfl, p, _, _, rfl, rfl, hp2, by rw [List.length_map]; exact big (by omega), ?_⟩
          refine ⟨⟨i + n, pre ++ [c], _, _, rfl, by omega, by rw [List.length_append]; show pre.length + 1 ≤ _; omega, same_mine (sm.trans sm2) np, ?_, ?_⟩, ?_⟩
          · rw [upd_same, show tI (pre ++ [c]) = tI pre ++ [V.int (c : Nat)] from List.map_append]
          · rw [hch, chars_some e, List.drop_drop]
            cases chars (b.drop (i + n)) with
            | none => rfl
            | some t => simp
          · show b.length - (((i + n : Nat) : Int)).toNat < b.length - ((i : Nat) : Int).toNat
            omega
      · refine if_false_of (decide_eq_false (by omega)) ?_
        have e : i = b.length := by omega
        rw [e, List.drop_length, chars_nil] at hch
        refine ⟨_, rfl, ks pre ?_ Hc p sm np hp⟩
        rw [hch]
        simp
    · rintro σ Hc Q1 Q2 hq ⟨v, e, v', e', p', ys, e1, hs, i, j, e2, e3, k, e4, q⟩
      exact ⟨v, e, v', e', p', ys, e1, hs, i, j, e2, e3, k, e4, hq _ _ q⟩
end Say
set_option Elab.async false
set_option linter.all false
set_option maxRecDepth 100000
set_option maxHeartbeats 400000
namespace Say
open PySem PySem.Spec PyProof.Rows L2
open SyBase SyLex SyWays
variable {P : Program} {w : World} {K : PySem.W.Frag} {mg : Str → Option Value} {base : Heap}
def spRowOf (K : PySem.W.Frag) : Sp := fun vs H Q _ => ∃ (a : Addr) (b : Bytes), vs = [.ref a] ∧ SqL K H a (bI b) ∧ b.length ≤ 100000 ∧
  (signsOf b = none → ∀ H', Same H H' → Q .non H') ∧ ∀ t, signsOf b = some t → ∀ H' p, Same H H' → H p = none → H' p = some (.tup (tI t)) → Q (.ref p) H'
theorem scRowOf : FnScope ["part", "characters", "character"] ["part"] (defScope sRowOf) := ⟨rfl, rfl, rfl, by decide +kernel, rfl, by decide +kernel, by decide +kernel⟩
theorem ok_rowOf {f : Addr} {fd : FuncData} (F : Fun K "row_of" "row_of" sRowOf f fd) (T : Glob mg) (h1 : Has P w K mg base CX0 3 "characters_of" ["octets"] (spCharactersOf K)) (h2 : Has P w K mg base CX0 1 "may_stand_in_word" ["character"] spMayStand) :
    FnOk P w K mg base CX0 4 f fd ["part"] (spRowOf K) := by
  obtain ⟨f1, fd1, G1, m1, k1, b1⟩ := h1
  obtain ⟨f2, fd2, G2, m2, k2, b2⟩ := h2
  refine F.ok scRowOf (fun vs H Q E h => ?_) (fun cdv A outer s H vs Q E hr h => ?_)
  · obtain ⟨a, b, rfl, _⟩ := h
    rfl
  · refine ⟨_, pss_cons (ps_set (i := 1) scRowOf.nd rfl (Or.inl rfl) (pe_call G1 hr rfl m1 k1 b1 .nil pass0 (pa_cons (pv 0) pa_nil)))
      (pss_cons (ps_if (PW.pt (pw_or (pt_not (pt_truth (pv 1) (by intro _; rfl))) (pw_or1 (pt_not (pt_val (pe_callB (cr_all rfl) rfl T.all boot_all (pa_cons
          (pe_lc (own := [("character", 2)]) (g := gName 2) (tt := tYes) rfl scRowOf.nd (pi_list (pv 1)) (blkOk_by (N := ["part", "characters", "character"]) (sc := defScope sRowOf) (by decide +kernel)) (fun _ _ _ _ _ => pg_name (i := 2) scRowOf.nd rfl (Or.inl rfl)) (fun _ _ _ _ _ => pts_nil)
            (fun _ _ _ _ _ => pe_call G2 (hr.mono (by decide)) rfl m2 k2 b2 .nil pass0 (pa_cons (pv 2) pa_nil))) pa_nil)))))))
        (pss_one (ps_ret pe_non)) pss_nil)
      (pss_one (ps_ret (pe_callTy call_tuple_of rfl T.tuple boot_tuple (pa_cons (pv 1) pa_nil))))), ?_⟩
    obtain ⟨a, b, rfl, hS, hlen, kn, ks⟩ := h
    rw [signs_eq] at kn ks
    refine seq_asg (call_of (arg_is (ie_v rfl) ?_))
    refine ⟨a, b, rfl, hS, hlen, fun e H1 sm => ?_, fun t e H1 q sm nq hq => ?_⟩
    · rw [e] at kn
      refine seq_if (b := true) (is_or (b := true) (c := true) (is_not (b := false) fun Q q => ⟨_, rfl, _, rfl, q⟩) (fun z => by cases z)) (fun _ => kn rfl H1 sm) (fun z => by cases z)
    · rw [e] at kn ks
      simp only at kn ks
      have hlen2 : t.length ≤ 100000 := Nat.le_trans (chars_short _ b t (Nat.le_refl _) e) hlen
      by_cases h0 : t = []
      · rw [if_pos h0] at kn
        subst h0
        refine seq_if (b := true) (is_or (b := true) (c := true) (is_not (b := false) fun Q k => ⟨_, rfl, _, Or.inl ⟨_, .inl (.inl hq), rfl⟩, k⟩) (fun z => by cases z)) (fun _ => kn rfl H1 sm) (fun z => by cases z)
      · rw [if_neg h0] at kn ks
        refine seq_or (is_not (b := true) fun Q k => ⟨_, rfl, _, Or.inl ⟨_, .inl (.inl hq), rfl⟩, by cases t with | nil => exact absurd rfl h0 | cons c r => exact k⟩) ?_
        refine ⟨_, rfl, q, rfl, ⟨_, .inl (.inl hq)⟩, fun D nD => ?_⟩
        have nDq : q ≠ D := ne_of_none hq nD
        refine lc_list (xs := tI t) (fun j Hc => Same H1 Hc ∧ Hc D = some (.lst ((t.take j).map fun c => .bl (mayStand c)))) ⟨same_upd nD, upd_same⟩ (fun j Hc _ p => .inl (.inl (p.1 q _ hq))) ?_ ?_
        · rintro j x Hc hx ⟨sm3, hD⟩
          rw [List.getElem?_map] at hx
          cases ej : t[j]? with
          | none => rw [ej] at hx; cases hx
          | some c =>
            rw [ej] at hx
            cases hx
            refine gname ⟨rfl, yes_of ?_⟩
            refine ⟨_, rfl, c, rfl, _, hD, by rw [List.length_map, List.length_take]; exact big (by omega), same_mine sm3 nD, ?_⟩
            rw [upd_same, take_more ej, List.map_append]
            rfl
        · rintro Hc ⟨sm3, hD⟩
          rw [List.length_map, List.take_length] at hD
          have eall : (t.map mayStand).all id = t.all mayStand := by rw [List.all_map]; rfl
          refine ⟨D, t.map mayStand, rfl, .inl (.inl (by rw [hD, List.map_map]; rfl)), _, rfl, ?_⟩
          rw [eall]
          cases ea : t.all mayStand with
          | true =>
            rw [if_pos ea] at ks
            refine if_false_of rfl ?_
            refine ⟨_, rfl, q, tI t, rfl, .inl ⟨.inl (.inl (sm3 q _ hq)), fun l nl => ?_⟩⟩
            have sm4 := sm.trans sm3
            exact ks t rfl _ l (same_new sm4 nl) (not_there sm4 nl) upd_same
          | false =>
            rw [ea] at kn
            refine if_true_of rfl ?_
            exact kn rfl Hc (sm.trans sm3)
end Say
set_option Elab.async false
set_option linter.all false
set_option maxRecDepth 100000
set_option maxHeartbeats 400000
namespace Say
open PySem PySem.Spec PyProof.Rows L2
open SyBase SyLex SyWays
variable {P : Program} {w : World} {K : PySem.W.Frag} {mg : Str → Option Value} {base : Heap}
/-- the class of words -/
structure WordC (K : PySem.W.Frag) (mg : Str → Option Value) (C : Addr) : Prop where
  gC : mg "Word" = some (.ref C)
  cl : Cls K C
  n1 : NoAttr K C "reading"
  n2 : NoAttr K C "text"
  n3 : NoAttr K C "left"
  n4 : NoAttr K C "right"
  n5 : NoAttr K C "cost"
abbrev wordFs (r t : Addr) (x y c : Nat) : List (Str × V) := [("reading", .ref r), ("text", .ref t), ("left", .int (x : Nat)), ("right", .int (y : Nat)), ("cost", .int (c : Nat))]
/-- a word as an instance -/
def WordAt (C : Addr) (H : Hp) (a : Addr) (w : SyLex.Word) : Prop := ∃ dx r t, H a = some (.ins C dx (wordFs r t w.left w.right w.cost)) ∧ H r = some (.tup (tI w.reading)) ∧ H t = some (.tup (tI w.text))
theorem WordAt.same {C a : Addr} {H H' : Hp} {w : SyLex.Word} (h : WordAt C H a w) (s : Same H H') : WordAt C H' a w := by
  obtain ⟨dx, r, t, h1, h2, h3⟩ := h
  exact ⟨dx, r, t, s _ _ h1, s _ _ h2, s _ _ h3⟩
/-- heaps that agree but at one place -/
def But (p : Addr) (H H' : Hp) : Prop := ∀ b, b ≠ p → H' b = H b
theorem But.refl (p : Addr) (H : Hp) : But p H H := fun _ _ => rfl
theorem But.upd {p : Addr} {H H' : Hp} {o : HO} (h : But p H H') : But p H (L2.upd H' p o) := fun b n => by rw [upd_ne n]; exact h b n
def spWordInit (C : Addr) : Sp := fun vs H Q _ => ∃ (x dx r t : Addr) (l rt c : Nat), vs = [.ref x, .ref r, .ref t, .int (l : Nat), .int (rt : Nat), .int (c : Nat)] ∧ H x = some (.ins C dx []) ∧
  ∀ H', H' x = some (.ins C dx (wordFs r t l rt c)) → But x H H' → Q .non H'
theorem scWordInit : FnScope ["self", "reading", "text", "left", "right", "cost"] ["self", "reading", "text", "left", "right", "cost"] (defScope sWordInit) := ⟨rfl, rfl, rfl, by decide +kernel, rfl, by decide +kernel, by decide +kernel⟩
theorem ok_wordInit {C : Addr} {f : Addr} {fd : FuncData} (F : Fun K "__init__" "Word.__init__" sWordInit f fd) (T : WordC K mg C) : FnOk P w K mg base CX0 1 f fd ["self", "reading", "text", "left", "right", "cost"] (spWordInit C) := by
  refine F.ok scWordInit (fun vs H Q E h => ?_) (fun cdv A outer s H vs Q E hr h => ?_)
  · obtain ⟨x, dx, r, t, l, rt, c, rfl, _⟩ := h
    rfl
  · refine ⟨_, pss_cons (ps_fld (pv 0) (pv 1) rfl) (pss_cons (ps_fld (pv 0) (pv 2) rfl) (pss_cons (ps_fld (pv 0) (pv 3) rfl) (pss_cons (ps_fld (pv 0) (pv 4) rfl) (pss_one (ps_fld (pv 0) (pv 5) rfl))))), ?_⟩
    obtain ⟨x, dx, r, t, l, rt, c, rfl, hx, k⟩ := h
    refine ⟨_, rfl, _, rfl, x, C, dx, _, rfl, hx, T.cl, T.n1, by decide, ?_⟩
    refine ⟨_, rfl, _, rfl, x, C, dx, _, rfl, upd_same, T.cl, T.n2, by show 1 < 1000; decide, ?_⟩
    refine ⟨_, rfl, _, rfl, x, C, dx, _, rfl, upd_same, T.cl, T.n3, by show 2 < 1000; decide, ?_⟩
    refine ⟨_, rfl, _, rfl, x, C, dx, _, rfl, upd_same, T.cl, T.n4, by show 3 < 1000; decide, ?_⟩
    refine ⟨_, rfl, _, rfl, x, C, dx, _, rfl, upd_same, T.cl, T.n5, by show 4 < 1000; decide, ?_⟩
    exact k _ upd_same (((((But.refl x H).upd).upd).upd).upd).upd
/-- keeps_bounds -/
def spKeepsBounds (C : Addr) : Sp := fun vs H Q _ => ∃ (x : Addr) (w : SyLex.Word), vs = [.ref x] ∧ WordAt C H x w ∧ w.reading.length ≤ 100000 ∧ w.text.length ≤ 100000 ∧ Q (.bl w.small) H
theorem scKeepsBounds : FnScope ["self", "longest"] ["self"] (defScope sKeepsBounds) := ⟨rfl, rfl, rfl, by decide +kernel, rfl, by decide +kernel, by decide +kernel⟩
theorem ok_keepsBounds {C : Addr} {f : Addr} {fd : FuncData} (F : Fun K "keeps_bounds" "Word.keeps_bounds" sKeepsBounds f fd) (G : Glob mg) (T : WordC K mg C) : FnOk P w K mg base CX0 1 f fd ["self"] (spKeepsBounds C) := by
  refine F.ok scKeepsBounds (fun vs H Q E h => ?_) (fun cdv A outer s H vs Q E hr h => ?_)
  · obtain ⟨x, w, rfl, _⟩ := h
    rfl
  · refine ⟨_, pss_cons (ps_set (i := 1) scKeepsBounds.nd rfl (Or.inl rfl) (pe_callB (call_max2 rfl) rfl G.max boot_max (pa_cons (pe_callB call_len_seq rfl G.len PySem.boot_len (pa_cons (pe_fld (pv 0) rfl) pa_nil)) (pa_cons (pe_callB call_len_seq rfl G.len PySem.boot_len (pa_cons (pe_fld (pv 0) rfl) pa_nil)) pa_nil))))
      (pss_one (ps_ret (pe_and (pe_cmpR op_le (pv 1) (pe_num G.characters rfl) (nomark _))
        (pe_and (pe_cmpR op_le (pe_callB (call_max2 rfl) rfl G.max boot_max (pa_cons (pe_fld (pv 0) rfl) (pa_cons (pe_fld (pv 0) rfl) pa_nil))) (pe_num G.sort rfl) (nomark _))
        (pe_one (pe_cmpR op_le (pe_fld (pv 0) rfl) (pe_num G.cost rfl) (nomark _))))))), ?_⟩
    obtain ⟨x, wd, rfl, ⟨dx, r, t, hx, hr', ht⟩, l1, l2, k⟩ := h
    have ir : IsE (tCB (fun xs H Q => ∃ p ys, xs = [V.ref p] ∧ (SqL K H p ys ∨ SqT K H p ys) ∧ Q (V.int (ys.length : Nat)) H) (tCons (tFld K (tVar 0) "reading") tNil)) [some (.ref x), none] H (.int (wd.reading.length : Nat)) :=
      ie_cast (ie_lenT (ie_fld (ie_v rfl) hx T.cl T.n1 rfl) (.inl (.inl hr'))) (by rw [List.length_map])
    have it : IsE (tCB (fun xs H Q => ∃ p ys, xs = [V.ref p] ∧ (SqL K H p ys ∨ SqT K H p ys) ∧ Q (V.int (ys.length : Nat)) H) (tCons (tFld K (tVar 0) "text") tNil)) [some (.ref x), none] H (.int (wd.text.length : Nat)) :=
      ie_cast (ie_lenT (ie_fld (ie_v rfl) hx T.cl T.n2 rfl) (.inl (.inl ht))) (by rw [List.length_map])
    refine seq_set (ie_max2 ir it) ?_
    refine ret_is (ie_and (b := decide (max wd.reading.length wd.text.length ≤ 32)) (ie_leN (ie_v rfl) ie_c) fun _ => ie_and (b := decide (max wd.left wd.right ≤ 255)) (c := decide (wd.cost ≤ 65535)) (ie_leN (ie_max2 (ie_fld (ie_v rfl) hx T.cl T.n3 rfl) (ie_fld (ie_v rfl) hx T.cl T.n4 rfl)) ie_c) fun _ => ie_leN (ie_fld (ie_v rfl) hx T.cl T.n5 rfl) ie_c) ?_
    have e : (decide (max wd.reading.length wd.text.length ≤ 32) && (decide (max wd.left wd.right ≤ 255) && decide (wd.cost ≤ 65535))) = wd.small := by
      unfold SyLex.Word.small SIGNS SORTS COST
      rw [Bool.eq_iff_iff]
      simp only [Bool.and_eq_true, decide_eq_true_eq]
      omega
    rw [e]
    exact k
end Say
set_option Elab.async false
set_option linter.all false
set_option maxRecDepth 100000
set_option maxHeartbeats 400000
namespace Say
open PySem PySem.Spec PyProof.Rows L2
open SyBase SyLex SyWays
variable {P : Program} {w : World} {K : PySem.W.Frag} {mg : Str → Option Value} {base : Heap}
theorem ie_ixL {te ti : TE} {σ : L2.St} {H : Hp} {p : Addr} {xs : List V} {i : Nat} {v : V} (h : IsE te σ H (.ref p)) (g : IsE ti σ H (.int (i : Nat))) (hS : SqL K H p xs) (e : xs[i]? = some v) : IsE (tOp (rIxL K) te ti) σ H v :=
  fun _ q => h _ (g _ ⟨p, xs, _, v, rfl, rfl, hS, atI_nat e, q⟩)
theorem arg1 {t : TE} {σ : L2.St} {H : Hp} {v : V} {Q : List V → Hp → Prop} (h : IsE t σ H v) (q : Q [v] H) : tCons t tNil σ H Q := h _ q
theorem ret_of {t : TE} {D : Ends} {σ : L2.St} {H : Hp} (q : t σ H D.rt) : tRet t D σ H := q
theorem make_of {C : Addr} {sp : Sp} {dvs : List V} {E : XK} {t : TA} {σ : L2.St} {H : Hp} {Q : VK}
    (q : t σ H fun vs H1 => ∀ x dx, H1 x = none → H1 dx = none → dx ≠ x → sp (.ref x :: (vs ++ dvs)) (upd (upd H1 dx (.own x)) x (.ins C dx [])) (fun v H2 => v = .non ∧ Q (.ref x) H2) E) : tMake C sp dvs E t σ H Q := q
theorem five {α : Type} {l : List α} (h : l.length = 5) : ∃ a b c d e, l = [a, b, c, d, e] := match l, h with | [a, b, c, d, e], _ => ⟨a, b, c, d, e, rfl⟩
theorem three {α : Type} {l : List α} (h : l.length = 3) : ∃ a b c, l = [a, b, c] := match l, h with | [a, b, c], _ => ⟨a, b, c, rfl⟩
theorem one {α : Type} {l : List α} (h : l.length = 1) : ∃ a, l = [a] := match l, h with | [a], _ => ⟨a, rfl⟩
/-- None or a number, in a list that is asked whether None is in it -/
theorem flat_nums : ∀ os : List (Option Nat), (os.map numV).all flatV = true
  | [] => rfl
  | none :: os => by rw [List.map_cons, List.all_cons, flat_nums os]; rfl
  | some n :: os => by rw [List.map_cons, List.all_cons, flat_nums os]; rfl
theorem in_nums : ∀ os : List (Option Nat), inV .non (os.map numV) = os.any Option.isNone
  | [] => rfl
  | none :: os => by
    have ih := in_nums os
    unfold inV at ih ⊢
    rw [List.map_cons, List.any_cons, ih]; rfl
  | some n :: os => by
    have ih := in_nums os
    unfold inV at ih ⊢
    rw [List.map_cons, List.any_cons, ih]; rfl
theorem ie_inN {te : TE} {σ : L2.St} {H : Hp} {p : Addr} {os : List (Option Nat)} (h : IsE te σ H (.ref p)) (hS : SqL K H p (os.map numV)) : IsE (tOp (rIn K false) (tC .non) te) σ H (.bl (os.any Option.isNone)) := fun Q q => by
  refine h _ ⟨p, _, rfl, .inl hS, rfl, flat_nums os, ?_⟩
  rw [in_nums]
  exact q
/-- a row of characters or None, where it stands -/
def RowV (H : Hp) (v : V) : Option Text → Prop
  | none => v = .non
  | some t => ∃ p, v = .ref p ∧ H p = some (.tup (tI t))
theorem RowV.same {H H' : Hp} {v : V} : ∀ {o : Option Text}, RowV H v o → Same H H' → RowV H' v o
  | none, h, _ => h
  | some _, ⟨p, e, h⟩, s => ⟨p, e, s _ _ h⟩
theorem RowV.non {H : Hp} {v : V} {o : Option Text} (h : RowV H v o) : decide (v = .non) = o.isNone := by
  cases o with
  | none => rw [show v = .non from h]; rfl
  | some t =>
    obtain ⟨p, e, _⟩ := h
    rw [e]
    rfl
theorem row_call {a : Addr} {b : Bytes} {H : Hp} {Q : VK} {E : XK} (hS : SqL K H a (bI b)) (hl : b.length ≤ 100000) (k : ∀ v H', Same H H' → RowV H' v (signsOf b) → Q v H') : spRowOf K [.ref a] H Q E :=
  ⟨a, b, rfl, hS, hl, fun e H' s => k _ H' s (by rw [e]; rfl), fun t e H' p s _ h => k _ H' s (by rw [e]; exact ⟨p, rfl, h⟩)⟩
/-- a word with its numbers as the program keeps them -/
def capW (w : SyLex.Word) : SyLex.Word := { w with left := cap w.left, right := cap w.right, cost := cap w.cost }
theorem capW_small (w : SyLex.Word) : (capW w).small = w.small := by
  unfold SyLex.Word.small capW SIGNS SORTS COST cap TOP
  rw [Bool.eq_iff_iff]
  simp only [Bool.and_eq_true, decide_eq_true_eq]
  omega
theorem capW_same {w : SyLex.Word} (h : w.small = true) : capW w = w := by
  unfold SyLex.Word.small SIGNS SORTS COST at h
  simp only [Bool.and_eq_true, decide_eq_true_eq] at h
  unfold capW
  rw [cap_same (n := w.left) (by unfold TOP; omega), cap_same (n := w.right) (by unfold TOP; omega), cap_same (n := w.cost) (by unfold TOP; omega)]
theorem wordOf_short {l : Bytes} {wd : SyLex.Word} (h : wordOf l = some wd) : wd.reading.length ≤ l.length ∧ wd.text.length ≤ l.length := by
  by_cases e : (splitB 0x20 l).length = 5
  · obtain ⟨r, t, x, y, c, es⟩ := five e
    have h1 := splitB_short 0x20 l r (by rw [es]; simp)
    have h2 := splitB_short 0x20 l t (by rw [es]; simp)
    rw [wordOf_five es] at h
    cases er : signsOf r with
    | none => rw [er] at h; cases h
    | some r' =>
      cases et : signsOf t with
      | none => rw [er, et] at h; cases h
      | some t' =>
        rw [er, et] at h
        cases ex : decimalOf x with
        | none => rw [ex] at h; cases h
        | some x' =>
          cases ey : decimalOf y with
          | none => rw [ex, ey] at h; cases h
          | some y' =>
            cases ec : decimalOf c with
            | none => rw [ex, ey, ec] at h; cases h
            | some c' =>
              rw [ex, ey, ec] at h
              cases h
              exact ⟨Nat.le_trans (signs_ne er).2 h1, Nat.le_trans (signs_ne et).2 h2⟩
  · rw [wordOf_other e] at h
    cases h
def spWordOf (C : Addr) (K : PySem.W.Frag) : Sp := fun vs H Q _ => ∃ (a : Addr) (l : Bytes), vs = [.ref a] ∧ SqL K H a (bI l) ∧ l.length ≤ 100000 ∧
  (wordOf l = none → ∀ H', Same H H' → Q .non H') ∧ ∀ wd, wordOf l = some wd → ∀ H' x, Same H H' → H x = none → WordAt C H' x (capW wd) → Q (.ref x) H'
theorem scWordOf : FnScope ["line", "parts", "reading", "text", "numbers", "part"] ["line"] (defScope sWordOf) := ⟨rfl, rfl, rfl, by decide +kernel, rfl, by decide +kernel, by decide +kernel⟩
theorem ok_wordOf {C fI : Addr} {f : Addr} {fd fdI : FuncData} (F : Fun K "word_of" "word_of" sWordOf f fd) (G : Glob mg) (T : WordC K mg C) (M : Mk K C fI)
    (FI : FnOk P w K mg base CX0 1 fI fdI ["self", "reading", "text", "left", "right", "cost"] (spWordInit C)) (bI0 : Binds K fdI ["self", "reading", "text", "left", "right", "cost"] [])
    (h1 : Has P w K mg base CX0 2 "parts_of" ["line"] (spPartsOf K)) (h2 : Has P w K mg base CX0 4 "row_of" ["part"] (spRowOf K)) (h3 : Has P w K mg base CX0 1 "number_of" ["part"] (spNumberOf K)) :
    FnOk P w K mg base CX0 5 f fd ["line"] (spWordOf C K) := by
  obtain ⟨f1, fd1, G1, m1, k1, b1⟩ := h1
  obtain ⟨f2, fd2, G2, m2, k2, b2⟩ := h2
  obtain ⟨f3, fd3, G3, m3, k3, b3⟩ := h3
  refine F.ok scWordOf (fun vs H Q E h => ?_) (fun cdv A outer s H vs Q E hr h => ?_)
  · obtain ⟨a, l, rfl, _⟩ := h
    rfl
  · refine ⟨_, pss_cons (ps_set (i := 1) scWordOf.nd rfl (Or.inl rfl) (pe_call G1 (hr.mono (by decide)) rfl m1 k1 b1 .nil pass0 (pa_cons (pv 0) pa_nil)))
      (pss_cons (ps_if (pt_cmpR op_ne (pe_callB call_len_seq rfl G.len PySem.boot_len (pa_cons (pv 1) pa_nil)) pe_int (nomark _)) (pss_one (ps_ret pe_non)) pss_nil)
      (pss_cons (ps_set (i := 2) scWordOf.nd rfl (Or.inl rfl) (pe_call G2 hr rfl m2 k2 b2 .nil pass0 (pa_cons (pe_ix ix_list (pv 1) pe_int (fun _ _ => rfl)) pa_nil)))
      (pss_cons (ps_set (i := 3) scWordOf.nd rfl (Or.inl rfl) (pe_call G2 hr rfl m2 k2 b2 .nil pass0 (pa_cons (pe_ix ix_list (pv 1) pe_int (fun _ _ => rfl)) pa_nil)))
      (pss_cons (ps_setLc (i := 4) (own := [("part", 5)]) (g := gName 5) (tt := tYes) rfl scWordOf.nd rfl rfl (sw_true rfl rfl rfl (by decide +kernel)) (pi_list (pe_slice sl_list (pv 1) (po_some pe_int) po_none))
          (blkOk_by (N := ["line", "parts", "reading", "text", "numbers", "part"]) (sc := defScope sWordOf) (by decide +kernel)) (fun _ _ _ _ _ => pg_name (i := 5) scWordOf.nd rfl (Or.inl rfl)) (fun _ _ _ _ _ => pts_nil)
          (fun _ _ _ _ _ => pe_call G3 (hr.mono (by decide)) rfl m3 k3 b3 .nil pass0 (pa_cons (pv 5) pa_nil)))
      (pss_cons (ps_if (PW.pt (pw_or (pt_cmp (pc_isN (pv 2))) (pw_or (pt_cmp (pc_isN (pv 3))) (pw_or1 (pt_cmpR op_in_seq pe_non (pv 4) rfl))))) (pss_one (ps_ret pe_non)) pss_nil)
      (pss_one (ps_ret (pe_make M FI (hr.mono (by decide)) rfl T.gC bI0 .nil pass0 (pa_cons (pv 2) (pa_cons (pv 3) (pa_cons (pe_ix ix_list (pv 4) pe_int (fun _ _ => rfl)) (pa_cons (pe_ix ix_list (pv 4) pe_int (fun _ _ => rfl)) (pa_cons (pe_ix ix_list (pv 4) pe_int (fun _ _ => rfl)) pa_nil))))))))))))), ?_⟩
    obtain ⟨a, l, rfl, hS, hlen, kn, ks⟩ := h
    refine seq_asg (call_of (arg_is (ie_v rfl) ?_))
    refine ⟨a, l, rfl, hS, hlen, fun H1 p qs sm np hp rows fresh => ?_⟩
    have eln := Paired.length rows
    refine seq_if (b := !decide (qs.length = 5)) (is_test (ie_neN (x := qs.length) (y := 5) (ie_cast (ie_len (ie_v rfl) (.inl (.inl hp))) (by rw [List.length_map])) ie_c)) (fun e => ?_) (fun e => ?_)
    · refine kn (wordOf_other fun z => ?_) H1 sm
      rw [← eln] at z
      rw [decide_eq_true z] at e
      cases e
    · have e5 : (splitB 0x20 l).length = 5 := by
        rw [← eln]
        simpa using e
      obtain ⟨r, t, x, y, c, es⟩ := five e5
      obtain ⟨q0, q1, q2, q3, q4, eq⟩ := five (eln.trans e5)
      have ew := wordOf_five es
      have short : ∀ b ∈ [r, t, x, y, c], b.length ≤ 100000 := fun b hb => Nat.le_trans (splitB_short 0x20 l b (by rw [es]; exact hb)) hlen
      rw [es] at rows
      subst eq
      cases rows with | cons hq0 rows => cases rows with | cons hq1 rows => cases rows with | cons hq2 rows => cases rows with | cons hq3 rows => cases rows with | cons hq4 _ =>
      refine seq_asg (call_of (arg1 (ie_ixL (i := 0) (ie_v rfl) ie_c (.inl (.inl hp)) rfl) (row_call (.inl (.inl hq0)) (short r (by simp)) fun v2 H2 sm2 rv2 => ?_)))
      refine seq_asg (call_of (arg1 (ie_ixL (i := 1) (ie_v rfl) ie_c (.inl (.inl (sm2 _ _ hp))) rfl) (row_call (.inl (.inl (sm2 _ _ hq1))) (short t (by simp)) fun v3 H3 sm3 rv3 => ?_)))
      have s13 : Same H1 H3 := sm2.trans sm3
      have ecut : cutV ([q0, q1, q2, q3, q4].map V.ref) (some 2) none = [q2, q3, q4].map V.ref := cut_all (lo := 2) _
      refine seq_asg ⟨_, rfl, 2, rfl, p, _, rfl, .inl (.inl (s13 _ _ hp)), fun u nu => ⟨u, rfl, ⟨_, .inl (.inl upd_same)⟩, fun D nD => ?_⟩⟩
      have nDu : u ≠ D := ne_of_none upd_same nD
      have s3u : Same H3 (upd H3 u (.lst (cutV ([q0, q1, q2, q3, q4].map V.ref) (some 2) none))) := same_upd nu
      have hu : upd H3 u (.lst (cutV ([q0, q1, q2, q3, q4].map V.ref) (some 2) none)) u = some (.lst ([q2, q3, q4].map V.ref)) := by rw [upd_same, ecut]
      generalize upd H3 u (.lst (cutV ([q0, q1, q2, q3, q4].map V.ref) (some 2) none)) = H4 at nD s3u hu
      refine lc_list (xs := [q2, q3, q4].map V.ref) (fun j Hc => Same H4 Hc ∧ Hc D = some (.lst (([x, y, c].take j).map fun b => numV (decimalOf b)))) ⟨same_upd nD, upd_same⟩ (fun j Hc _ p => .inl (.inl (p.1 u _ hu))) ?_ ?_
      · rintro j v Hc hx ⟨sm5, hD⟩
        rw [List.getElem?_map] at hx
        cases ej : [q2, q3, q4][j]? with
        | none => rw [ej] at hx; cases hx
        | some q =>
          rw [ej] at hx
          cases hx
          have rows3 : Paired (fun q b => Hc q = some (.lst (bI b))) [q2, q3, q4] [x, y, c] :=
            .cons (sm5 _ _ (s3u _ _ (s13 _ _ hq2))) (.cons (sm5 _ _ (s3u _ _ (s13 _ _ hq3))) (.cons (sm5 _ _ (s3u _ _ (s13 _ _ hq4))) .nil))
          obtain ⟨b, eb, hb⟩ := paired_get rows3 ej
          refine gname ⟨rfl, yes_of ?_⟩
          refine ⟨_, rfl, q, b, rfl, .inl (.inl hb), short b ?_, _, hD, ?_, same_mine sm5 nD, ?_⟩
          · have := List.mem_of_getElem? eb
            simp only [List.mem_cons] at this ⊢
            exact .inr (.inr this)
          · rw [List.length_map, List.length_take]
            exact big (by simp; omega)
          · rw [upd_same, take_more eb, List.map_append]
            rfl
      · rintro Hc ⟨sm5, hD⟩
        have hD : Hc D = some (.lst ([decimalOf x, decimalOf y, decimalOf c].map numV)) := hD
        have sAll : Same H Hc := ((sm.trans s13).trans s3u).trans sm5
        have rv2' : RowV Hc v2 (signsOf r) := rv2.same ((sm3.trans s3u).trans sm5)
        have rv3' : RowV Hc v3 (signsOf t) := rv3.same (s3u.trans sm5)
        refine seq_if (b := (signsOf r).isNone || ((signsOf t).isNone || [decimalOf x, decimalOf y, decimalOf c].any Option.isNone)) (is_or (is_tB (by rw [← rv2'.non]; exact ie_isN (ie_v rfl))) fun _ => is_or (is_tB (by rw [← rv3'.non]; exact ie_isN (ie_v rfl))) fun _ => is_test (ie_inN (ie_v rfl) (.inl (.inl hD)))) (fun e => ?_) (fun e => ?_)
        · refine kn ?_ Hc sAll
          rw [ew]
          revert e
          cases signsOf r <;> cases signsOf t <;> cases decimalOf x <;> cases decimalOf y <;> cases decimalOf c <;> intro e <;> first | rfl | cases e
        · cases er : signsOf r with
          | none => rw [er] at e; cases e
          | some tr =>
          cases et : signsOf t with
          | none => rw [er, et] at e; cases e
          | some tt =>
          cases ex : decimalOf x with
          | none => rw [er, et, ex] at e; cases e
          | some nx =>
          cases ey : decimalOf y with
          | none => rw [er, et, ex, ey] at e; cases e
          | some ny =>
          cases ec : decimalOf c with
          | none => rw [er, et, ex, ey, ec] at e; cases e
          | some nc =>
          rw [er, et, ex, ey, ec] at ew
          rw [ex, ey, ec] at hD
          rw [er] at rv2'
          rw [et] at rv3'
          obtain ⟨pr, e2, hpr⟩ := rv2'
          obtain ⟨pt, e3, hpt⟩ := rv3'
          subst e2
          subst e3
          have hD' : SqL K Hc D [.int (cap nx : Nat), .int (cap ny : Nat), .int (cap nc : Nat)] := .inl (.inl hD)
          refine ret_of (make_of (arg_is (ie_v rfl) (arg_is (ie_v rfl) (arg_is (ie_ixL (i := 0) (ie_v rfl) ie_c hD' rfl) (arg_is (ie_ixL (i := 1) (ie_v rfl) ie_c hD' rfl) (arg_is (ie_ixL (i := 2) (ie_v rfl) ie_c hD' rfl) ?_))))))
          intro z dx nz ndx ne
          refine ⟨z, dx, pr, pt, _, _, _, rfl, upd_same, fun H' hz but => ⟨rfl, ?_⟩⟩
          have keep : Same Hc H' := fun b o e => by
            rw [but b (ne_of_none e nz), upd_ne (ne_of_none e nz), upd_ne (ne_of_none e ndx)]
            exact e
          exact ks _ ew H' z (sAll.trans keep) (not_there sAll nz) ⟨dx, pr, pt, hz, keep _ _ hpr, keep _ _ hpt⟩
end Say
set_option Elab.async false
set_option linter.all false
set_option maxRecDepth 100000
set_option maxHeartbeats 400000
/-! The order of words: what sorted gives is the specification's. -/
namespace Say
open PySem PySem.W PySem.Spec PyProof.Rows L2
open SyBase SyLex SyWays
/-- characters as whole numbers -/
def nI (t : Text) : List Int := t.map fun (c : Nat) => (c : Int)
theorem tI_nI (t : Text) : tI t = (nI t).map V.int := by
  unfold nI
  rw [List.map_map]
  rfl
theorem nI_inj : ∀ {a b : Text}, nI a = nI b → a = b
  | [], [], _ => rfl
  | [], _ :: _, h => by simp [nI] at h
  | _ :: _, [], h => by simp [nI] at h
  | x :: a, y :: b, h => by
    simp only [nI, List.map_cons, List.cons.injEq] at h
    rw [nI_inj (a := a) (b := b) h.2, show x = y by omega]
theorem before_ints : ∀ a b : Text, rowLt ((nI a).map .int) ((nI b).map .int) = SyBase.before a b
  | [], [] => by
    have e : rowLt [] [] = false := lex_irrefl _
    exact e
  | [], y :: b => by
    unfold rowLt
    rw [nI, nI, List.map_nil, List.map_nil, List.map_cons, List.map_cons, toks_all_cons]
    simp only [keyToksAll]
    rw [lex_diff (O := itemOrd) (by simp)]
    rfl
  | x :: a, [] => by
    unfold rowLt
    rw [nI, nI, List.map_nil, List.map_nil, List.map_cons, List.map_cons, toks_all_cons]
    simp only [keyToksAll]
    rw [lex_diff (O := itemOrd) (by simp)]
    rfl
  | x :: a, y :: b => by
    have ih := before_ints a b
    unfold rowLt at ih ⊢
    show PyProof.Rows.lexLt itemOrd (keyToksAll (PyData.int (x : Nat) :: (nI a).map .int)) (keyToksAll (PyData.int (y : Nat) :: (nI b).map .int)) = (decide (x < y) || (x == y && SyBase.before a b))
    rw [dataLt_cons (by simp [alike]), dataLt_int, ih]
    simp only [PyData.eqv, beq_iff_eq]
    by_cases h : x = y
    · subst h
      simp
    · have h' : ¬ ((x : Int) = (y : Int)) := by omega
      rw [if_neg h', show decide ((x : Int) < (y : Int)) = decide (x < y) from decide_eq_decide.mpr (by omega)]
      simp [h]
theorem alike_ints : ∀ xs ys : List Int, alikeAll (xs.map .int) (ys.map .int) = true
  | [], _ => by simp [alikeAll]
  | _ :: _, [] => by simp [alikeAll]
  | x :: xs, y :: ys => by
    rw [List.map_cons, List.map_cons, alikeAll, alike_ints xs ys]
    rfl
theorem eqv_ints : ∀ xs ys : List Int, PyData.eqvAll (xs.map .int) (ys.map .int) = decide (xs = ys)
  | [], [] => by simp [PyData.eqvAll]
  | [], _ :: _ => by simp [PyData.eqvAll]
  | _ :: _, [] => by simp [PyData.eqvAll]
  | x :: xs, y :: ys => by
    rw [List.map_cons, List.map_cons, PyData.eqvAll, eqv_ints xs ys]
    rw [Bool.eq_iff_iff]
    simp [PyData.eqv, List.cons.injEq]
def rowD (t : Text) : PyData := .tuple ((nI t).map .int)
/-- what a word is sorted by -/
def keyW (w : SyLex.Word) : PyData := .tuple [rowD w.reading, .int (w.cost : Nat), rowD w.text]
theorem rowD_alike (a b : Text) : alike (rowD a) (rowD b) = true := by
  unfold rowD
  rw [alike]
  exact alike_ints _ _
theorem rowD_eqv (a b : Text) : PyData.eqv (rowD a) (rowD b) = decide (a = b) := by
  unfold rowD
  rw [PyData.eqv, eqv_ints]
  exact decide_eq_decide.mpr ⟨nI_inj, fun h => by rw [h]⟩
theorem rowD_lt (a b : Text) : dataLt (rowD a) (rowD b) = SyBase.before a b := by
  unfold rowD
  rw [dataLt_tuple]
  exact before_ints a b
theorem before_irrefl : ∀ a : Text, SyBase.before a a = false
  | [] => rfl
  | x :: a => by
    unfold SyBase.before
    rw [before_irrefl a]
    simp
theorem before_total : ∀ a b : Text, SyBase.before a b = false → SyBase.before b a = false → a = b
  | [], [], _, _ => rfl
  | [], _ :: _, h, _ => by simp [SyBase.before] at h
  | _ :: _, [], _, h => by simp [SyBase.before] at h
  | x :: a, y :: b, h, g => by
    unfold SyBase.before at h g
    simp only [Bool.or_eq_false_iff, decide_eq_false_iff_not, Bool.and_eq_false_iff, beq_eq_false_iff_ne, ne_eq] at h g
    have e : x = y := by omega
    subst e
    rw [before_total a b (h.2.resolve_left fun z => z rfl) (g.2.resolve_left fun z => z rfl)]
theorem keyW_lt (a b : SyLex.Word) : dataLt (keyW a) (keyW b) = a.before b := by
  unfold keyW
  rw [dataLt_tuple, dataLt_cons (rowD_alike _ _), dataLt_cons (by simp [alike]), dataLt_cons (rowD_alike _ _), rowD_eqv, rowD_eqv, rowD_lt, rowD_lt, dataLt_int]
  have e : PyProof.Rows.lexLt itemOrd (keyToksAll []) (keyToksAll []) = false := lex_irrefl _
  rw [e]
  unfold SyLex.Word.before
  simp only [PyData.eqv, beq_iff_eq, decide_eq_true_eq]
  by_cases h1 : a.reading = b.reading
  · rw [if_pos h1, h1, before_irrefl]
    by_cases h2 : a.cost = b.cost
    · rw [if_pos (by omega), h2]
      by_cases h3 : a.text = b.text
      · rw [if_pos h3, h3, before_irrefl]
        simp
      · rw [if_neg h3]
        simp
    · rw [if_neg (by omega), show decide ((a.cost : Int) < (b.cost : Int)) = decide (a.cost < b.cost) from decide_eq_decide.mpr (by omega)]
      simp [h2]
  · rw [if_neg h1]
    simp [h1]
def leW (a b : SyLex.Word) : Bool := !b.before a
theorem leW_data : dataLe false keyW = leW := by
  funext a b
  show (!dataLt (keyW b) (keyW a)) = _
  rw [keyW_lt]
  rfl
theorem leW_total : TotalLe leW := by
  rw [← leW_data]
  exact sortLe_total _ _ _
theorem leW_of {a b : SyLex.Word} (h : a.before b = true) : leW a b = true := by
  rcases leW_total.total a b with e | e
  · exact e
  · unfold leW at e
    rw [h] at e
    cases e
theorem putWord_sorted (w : SyLex.Word) : ∀ {L : Lexicon}, L.Pairwise (fun a b => leW a b = true) → (putWord w L).Pairwise (fun a b => leW a b = true)
  | [], _ => by
    rw [putWord]
    exact List.pairwise_singleton _ _
  | q :: L, h => by
    rw [putWord]
    have h2 := List.pairwise_cons.mp h
    split
    · rename_i e
      refine List.pairwise_cons.mpr ⟨fun b hb => ?_, h⟩
      rcases List.mem_cons.mp hb with rfl | hb
      · exact leW_of e
      · exact leW_total.trans _ _ _ (leW_of e) (h2.1 b hb)
    · rename_i e
      refine List.pairwise_cons.mpr ⟨fun b hb => ?_, putWord_sorted w h2.2⟩
      rcases List.mem_cons.mp ((putWord_perm w L).mem_iff.mp hb) with rfl | hb
      · unfold leW
        simpa using e
      · exact h2.1 b hb
theorem sortW_sorted (ws : List SyLex.Word) : (sortW ws).Pairwise (fun a b => leW a b = true) := by
  have key : ∀ (ws : List SyLex.Word) (L : Lexicon), L.Pairwise (fun a b => leW a b = true) → (ws.foldl (fun L w => putWord w L) L).Pairwise (fun a b => leW a b = true) := by
    intro ws
    induction ws with
    | nil => intro L h; exact h
    | cons w ws ih => intro L h; exact ih _ (putWord_sorted w h)
  exact key ws [] .nil
/-- no two with the same reading and text -/
def Apart (ws : List SyLex.Word) : Prop := ∀ a ∈ ws, ∀ b ∈ ws, a.reading = b.reading → a.text = b.text → a = b
theorem leW_anti {ws : List SyLex.Word} (ha : Apart ws) {a b : SyLex.Word} (h1 : a ∈ ws) (h2 : b ∈ ws) (x : leW a b = true) (y : leW b a = true) : a = b := by
  unfold leW SyLex.Word.before at x y
  simp only [Bool.not_eq_true', Bool.or_eq_false_iff, Bool.and_eq_false_iff, beq_eq_false_iff_ne, ne_eq, decide_eq_false_iff_not] at x y
  have e := before_total _ _ x.1 y.1
  have x2 := x.2.resolve_left fun z => z e
  have y2 := y.2.resolve_left fun z => z e.symm
  have ec : a.cost = b.cost := by omega
  have et := before_total _ _ (x2.2.resolve_left fun z => z ec.symm) (y2.2.resolve_left fun z => z ec)
  exact ha a h1 b h2 e.symm et.symm
theorem sorted_words {β : Type} (g : β → SyLex.Word) (bs : List β) (ha : Apart (bs.map g)) : (bs.mergeSort (dataLe false fun b => keyW (g b))).map g = sortW (bs.map g) := by
  have e : (bs.mergeSort (dataLe false fun b => keyW (g b))).map g = (bs.map g).mergeSort leW := by
    refine sort_maps (s := leW) g fun a _ b _ => ?_
    rw [← leW_data]
    rfl
  rw [e]
  have p1 := List.mergeSort_perm (bs.map g) leW
  refine List.Perm.eq_of_pairwise (le := fun a b => leW a b = true) (fun a b h1 h2 x y => ?_) (sort_pairwise leW_total _) (sortW_sorted _) (p1.trans (sortW_perm _).symm)
  exact leW_anti ha (p1.mem_iff.mp h1) ((sortW_perm _).mem_iff.mp h2) x y
end Say
set_option Elab.async false
set_option linter.all false
set_option maxRecDepth 100000
set_option maxHeartbeats 400000
namespace Say
open PySem PySem.Spec PyProof.Rows L2
open SyBase SyLex SyWays
variable {P : Program} {w : World} {K : PySem.W.Frag} {mg : Str → Option Value} {base : Heap}
theorem seq_next {u : TS} {D : Ends} {σ : L2.St} {H : Hp} (q : u D σ H) : tSeq tNext u D σ H := q
theorem seq_ifq {c : TT} {A B R : TS} {D : Ends} {σ : L2.St} {H : Hp} (q : c σ H fun b H1 => if b = true then tSeq A R D σ H1 else tSeq B R D σ H1) : tSeq (tIfS c A B) R D σ H := q
theorem tB_of {t : TE} {σ : L2.St} {H : Hp} {Q : Bool → Hp → Prop} (q : t σ H fun x H1 => ∃ c, x = .bl c ∧ Q c H1) : tB t σ H Q := q
theorem tup2_of {t u : TE} {σ : L2.St} {H : Hp} {Q : VK} {x y : V} (h : IsE t σ H x) (g : IsE u σ H y) (q : ∀ p, H p = none → Q (.ref p) (upd H p (.tup [x, y]))) : tTup (tCons t (tCons u tNil)) σ H Q := h _ (g _ ⟨by show 2 ≤ sizeLine; decide, q⟩)
theorem seenIn_of {ti td : TE} {σ : L2.St} {H : Hp} {Q : VK} (q : ti σ H fun y H1 => td σ H1 fun x H2 => ∃ (d b : Addr) (es : List SayD.Seen) (r t : List Int), x = .ref d ∧ y = .ref b ∧ SayD.SeenAt P w H2 d es ∧ SayD.KeyAt H2 b r t ∧ Q (.bl (SayD.has es r t)) H2) : SayD.tSeenIn P w ti td σ H Q := q
theorem if_bool {b : Bool} {A B : Prop} (h1 : b = true → A) (h2 : b = false → B) : if b = true then A else B := by
  cases b with
  | true => rw [if_pos rfl]; exact h1 rfl
  | false => rw [if_neg Bool.false_ne_true]; exact h2 rfl
theorem hu10 {A : Around} {k : Nat} (hr : Room k A) : A.units + 10 < cLine := Nat.lt_of_le_of_lt (Nat.add_le_add_left (by decide : 10 ≤ 64) _) hr.units
/-- a word or None -/
def WordV (C : Addr) (H : Hp) (v : V) : Option SyLex.Word → Prop
  | none => v = .non
  | some wd => ∃ x, v = .ref x ∧ WordAt C H x wd ∧ wd.reading.length ≤ 100000 ∧ wd.text.length ≤ 100000
/-- the least kind of fault, 0 for none -/
def kindOf (es : List SayD.Seen) (n : Nat) : Option SyLex.Word → Nat
  | none => 1
  | some wd => if wd.small = false then 2 else if SayD.has es (nI wd.reading) (nI wd.text) = true then 3 else if 128 ≤ n then 4 else 0
def spKind (P : Program) (w : World) (C : Addr) : Sp := fun vs H Q _ => ∃ (v : V) (d : Addr) (n : Nat) (es : List SayD.Seen) (o : Option SyLex.Word), vs = [v, .ref d, .int (n : Nat)] ∧ WordV C H v o ∧ SayD.SeenAt P w H d es ∧
  ∀ H', Same H H' → Q (.int (kindOf es n o : Nat)) H'
theorem scKind : FnScope ["word", "told", "number"] ["word", "told", "number"] (defScope sKindOfFault) := ⟨rfl, rfl, rfl, by decide +kernel, rfl, by decide +kernel, by decide +kernel⟩
theorem wordAt_key {H : Hp} {b r t : Addr} {wd : SyLex.Word} (hr : H r = some (.tup (tI wd.reading))) (ht : H t = some (.tup (tI wd.text))) (nb : H b = none) : SayD.KeyAt (upd H b (.tup [.ref r, .ref t])) b (nI wd.reading) (nI wd.text) := by
  refine ⟨r, t, upd_same, ?_, ?_⟩
  · rw [upd_ne (ne_of_none hr nb), hr, tI_nI]
  · rw [upd_ne (ne_of_none ht nb), ht, tI_nI]
theorem seen_same {H H' : Hp} {d : Addr} {es : List SayD.Seen} (h : SayD.SeenAt P w H d es) (s : Same H H') : SayD.SeenAt P w H' d es := ⟨s _ _ h.1, fun e he => (h.2 e he).same fun c xs z => s c _ z⟩
theorem ok_kind {C fK : Addr} {f : Addr} {fd fdK : FuncData} (F : Fun K "kind_of_fault" "kind_of_fault" sKindOfFault f fd) (G : Glob mg) (T : WordC K mg C) (mK : Meth K C "keeps_bounds" fK)
    (FK : FnOk P w K mg base CX0 1 fK fdK ["self"] (spKeepsBounds C)) (bK : Binds K fdK ["self"] []) : FnOk P w K mg base CX0 2 f fd ["word", "told", "number"] (spKind P w C) := by
  refine F.ok scKind (fun vs H Q E h => ?_) (fun cdv A outer s H vs Q E hr h => ?_)
  · obtain ⟨v, d, n, es, o, rfl, _⟩ := h
    rfl
  · refine ⟨_, pss_cons (ps_if (pt_cmp (pc_isN (pv 0))) (pss_one (ps_ret pe_int)) pss_nil)
      (pss_cons (ps_if (pt_not (pt_val (pe_meth0 (pv 0) T.cl mK FK hr bK .nil pass0))) (pss_one (ps_ret pe_int)) pss_nil)
      (pss_cons (ps_if (pt_cmp (SayD.pc_seenIn (hu10 hr) (pe_tup (pa_cons (pe_fld (pv 0) rfl) (pa_cons (pe_fld (pv 0) rfl) pa_nil))) (pv 1))) (pss_one (ps_ret pe_int)) pss_nil)
      (pss_cons (ps_if (pt_cmpR op_ge (pv 2) (pe_num G.words rfl) (nomark _)) (pss_one (ps_ret pe_int)) pss_nil)
      (pss_one (ps_ret pe_int))))), ?_⟩
    obtain ⟨v, d, n, es, o, rfl, hv, hs, k⟩ := h
    cases o with
    | none =>
      obtain rfl := (show v = .non from hv)
      exact seq_if (b := true) (is_tB (ie_isN (v := .non) (ie_v rfl))) (fun _ => k H (Same.refl H)) (fun z => by cases z)
    | some wd =>
      obtain ⟨x, rfl, hw, l1, l2⟩ := hv
      obtain ⟨dx, r, t, hx, hr', ht⟩ := id hw
      refine seq_if (b := false) (is_tB (ie_isN (v := .ref x) (ie_v rfl))) (fun z => by cases z) (fun _ => ?_)
      have kk : ∀ H', Same H H' → Q (.int ((if wd.small = false then 2 else if SayD.has es (nI wd.reading) (nI wd.text) = true then 3 else if 128 ≤ n then 4 else 0 : Nat) : Nat)) H' := k
      refine seq_next (seq_if (b := !wd.small) (is_not (b := wd.small) fun Q' q => ⟨_, rfl, x, dx, _, rfl, hx, rfl, x, wd, rfl, hw, l1, l2, wd.small, rfl, q⟩) (fun e => ?_) (fun e => ?_))
      · have e : wd.small = false := by simpa using e
        rw [if_pos e] at kk
        exact kk H (Same.refl H)
      · have e : ¬ wd.small = false := by simpa using e
        rw [if_neg e] at kk
        refine seq_next (seq_ifq (tB_of (seenIn_of (tup2_of (ie_fld (ie_v rfl) hx T.cl T.n1 rfl) (ie_fld (ie_v rfl) hx T.cl T.n2 rfl) fun p np => ⟨_, rfl, d, p, es, _, _, rfl, rfl, seen_same hs (same_upd np), wordAt_key hr' ht np, _, rfl, if_bool (fun e3 => ?_) fun e3 => ?_⟩))))
        · rw [if_pos e3] at kk
          exact kk _ (same_upd np)
        · rw [if_neg (by rw [e3]; exact Bool.false_ne_true)] at kk
          refine seq_next (seq_if (b := decide (128 ≤ n)) (is_test (ie_geN (x := n) (y := 128) (ie_v rfl) ie_c)) (fun e4 => ?_) (fun e4 => ?_))
          · rw [if_pos (of_decide_eq_true e4)] at kk
            exact kk _ (same_upd np)
          · rw [if_neg (of_decide_eq_false e4)] at kk
            exact kk _ (same_upd np)
end Say
set_option Elab.async false
set_option linter.all false
set_option maxRecDepth 100000
set_option maxHeartbeats 400000
namespace Say
open PySem PySem.Spec PyProof.Rows L2
open SyBase SyLex SyWays
open LamX (Tabs ExtN TabB TabS)
variable {P : Program} {w : World} {K : PySem.W.Frag} {mg : Str → Option Value} {base : Heap}
/-- a def whose code object is known -/
structure FunC (K : PySem.W.Frag) (x qual : Str) (st : Stmt) (f : Addr) (fd : FuncData) (c : Addr) : Prop where
  ex : ∃ (oc : Value) (od : Option Addr) (kV doc pm : Value) (an : Option Addr) (ct : Value) (osl : Array (Option Value)),
    fd = PySem.W.fnOf x qual (defArgs st) (defBody st) (defScope st) .none kV doc pm an (.ref c) ct ∧ K.lookup f = some ⟨oc, od, .func fd, osl⟩ ∧ PySem.W.codeIn K (.ref c) qual = true
  kp : PySem.W.keepIn K (.ref f) = true
theorem FunC.ok {x qual : Str} {st : Stmt} {f c : Addr} {fd : FuncData} {N ps : List Str} {k : Nat} {sp : Sp} (F : FunC K x qual st f fd c) (S : FnScope N ps (defScope st)) (len : ∀ vs H Q E, sp vs H Q E → vs.length = ps.length)
    (hbody : ∀ (A : Around) (outer : List Env) (s : Shared) (H : Hp) (vs : List V) (Q : VK) (E : XK), Room k (A.deeper (envOfC qual (defScope st) s.heap.objs.size f (.ref c))) → sp vs H Q E →
      ∃ t, PSs (cxOf CX0 P w K mg base N qual (defScope st) f (.ref c) A outer s H E).nox (defBody st) t ∧ t { nx := fun _ H' => Q .non H', rt := Q } (start N vs) H) : FnOk P w K mg base CX0 (k + 1) f fd ps sp := by
  obtain ⟨oc, od, kV, doc, pm, an, ct, osl, rfl, lk, hcd⟩ := F.ex
  refine fn_of lk hcd S len fun A outer s H vs Q E hr hsp => ?_
  obtain ⟨t, h, q⟩ := hbody A outer s H vs Q E hr hsp
  exact ⟨t, h.nox, q⟩
theorem paired_maps {α β γ : Type} {R : α → β → Prop} {f : γ → α} {g : γ → β} : ∀ {l : List γ}, (∀ b ∈ l, R (f b) (g b)) → Paired R (l.map f) (l.map g)
  | [], _ => .nil
  | b :: l, h => .cons (h b List.mem_cons_self) (paired_maps fun x hx => h x (List.mem_cons_of_mem _ hx))
theorem paired_zip {α β : Type} {R : α → β → Prop} : ∀ {xs : List α} {ys : List β}, Paired R xs ys → (xs.zip ys).map Prod.fst = xs ∧ (xs.zip ys).map Prod.snd = ys ∧ ∀ p ∈ xs.zip ys, R p.1 p.2
  | _, _, .nil => ⟨rfl, rfl, fun p h => by cases h⟩
  | _, _, .cons h t => by
    obtain ⟨e1, e2, e3⟩ := paired_zip t
    refine ⟨by rw [List.zip_cons_cons, List.map_cons, e1], by rw [List.zip_cons_cons, List.map_cons, e2], fun p hp => ?_⟩
    rcases List.mem_cons.mp hp with rfl | hp
    · exact h
    · exact e3 p hp
theorem WordAt.ext {C a : Addr} {H H' : Hp} {wd : SyLex.Word} (h : WordAt C H a wd) (s : ExtN H H') : WordAt C H' a wd := by
  obtain ⟨dx, r, t, h1, h2, h3⟩ := h
  exact ⟨dx, r, t, s _ _ h1 (fun ps z => by cases z), s _ _ h2 (fun ps z => by cases z), s _ _ h3 (fun ps z => by cases z)⟩
abbrev WordsAt (C : Addr) (H : Hp) (as : List Addr) (ws : List SyLex.Word) : Prop := Paired (fun a wd => WordAt C H a wd) as ws
theorem paired_mono {α β : Type} {R S : α → β → Prop} (m : ∀ a b, R a b → S a b) : ∀ {xs : List α} {ys : List β}, Paired R xs ys → Paired S xs ys
  | _, _, .nil => .nil
  | _, _, .cons h t => .cons (m _ _ h) (paired_mono m t)
theorem rowD_depth (t : Text) : (rowD t).depth = 1 := by
  unfold rowD
  rw [PyData.depth, SayS.depth_ints]
theorem keyW_depth (wd : SyLex.Word) : (keyW wd).depth ≤ 20 := by
  unfold keyW
  rw [PyData.depth, PyData.depthAll, PyData.depthAll, PyData.depthAll, PyData.depthAll, rowD_depth, rowD_depth, PyData.depth]
  decide
theorem keyW_alike (a b : SyLex.Word) : PySem.W.alike (keyW a) (keyW b) = true := by
  unfold keyW
  rw [PySem.W.alike, PySem.W.alikeAll, PySem.W.alikeAll, PySem.W.alikeAll, rowD_alike, rowD_alike]
  simp [PySem.W.alike, PySem.W.alikeAll]
/-- not the place of anything but a table -/
def FreshN (H : Hp) (p : Addr) : Prop := ∀ b o, H b = some o → (∀ ps, o ≠ .tbl ps) → b ≠ p
theorem FreshN.of {H H' : Hp} {p : Addr} (s : ExtN H H') (n : H' p = none) : FreshN H p := fun b o e t => ne_of_none (s b o e t) n
theorem FreshN.back {H H' : Hp} {p : Addr} (f : FreshN H' p) (s : Same H H') : FreshN H p := fun b o e t => f b o (s b o e) t
/-- sorted(x, key=lambda p: body) in a def whose code object is known -/
theorem pe_sortLamC {N : List Str} {qual : Str} {sc : Scope} {f c P0 : Addr} {A : Around} {outer : List Env} {s : Shared} {H : Hp} {E : XK} {params : Arguments} {body : Expr} {scope : Scope} {lpos kpos pos np xp : Pos} {T : List (Addr × Str)} {p x : Str} {n : Nat} {t : TE}
    (hr : Room (n + 4) (A.deeper (envOfC qual sc s.heap.objs.size f (.ref c)))) (hg : Gl (cxOf CX0 P w K mg base N qual sc f (.ref c) A outer s H E).nox "sorted") (hms : mg "sorted" = none)
    (he : PE (cxOf CX0 P w K mg base N qual sc f (.ref c) A outer s H E).nox (.Name x xp) t) (TB : TabB base mg c P0)
    (hm : (P0, qual ++ ".<locals>." ++ "<lambda>") ∈ T) (hu : ∀ p ∈ T, p.1 = P0 → p.2 = qual ++ ".<locals>." ++ "<lambda>") (hdef : ∀ env, defaultsOf params env = ([], [])) (hcl : ∀ cells, cloFrom cells scope.names [] = []) (hfree : ∀ y ∈ scope.names, y.2 ≠ .free)
    (hbind : ∀ (q : Str) (pm cv ctv u : Value), bindArgs (PySem.W.kla_fn "<lambda>" q params body scope [] pm cv ctv) ⟨[u], []⟩ = pure [(p, u)]) (hk : scope.kind = .function) (hco : scope.isCoroutine = false) (hgen : scope.isGenerator = false)
    (hloc : scope.names.lookup p = some .local) (hnc : ∀ x ∈ scope.names, x.2 ≠ .cell) :
    PE (cxOf CX0 P w K mg base N qual sc f (.ref c) A outer s H E).nox (.Call (.Name "sorted" np) [.Name x xp] [⟨some "key", .Lambda params body scope lpos, kpos⟩] pos) (SayS.tSortLam P w K mg base T body scope p t) :=
  SayS.pe_sortLam (X := (cxOf CX0 P w K mg base N qual sc f (.ref c) A outer s H E).nox) (n := n) rfl hr hg hms he TB rfl hm hu (hdef _) (hcl _) hfree hbind hk hco hgen hloc hnc
def spInOrder (K : PySem.W.Frag) (C : Addr) (T : List (Addr × Str)) : Sp := fun vs H Q _ => ∃ (a : Addr) (as : List Addr) (ws : List SyLex.Word), vs = [.ref a] ∧ H a = some (.lst (as.map V.ref)) ∧ WordsAt C H as ws ∧ Apart ws ∧ Tabs T H ∧
  ∀ H' p as', FreshN H p → ExtN H H' → Tabs T H' → H' p = some (.lst (as'.map V.ref)) → WordsAt C H' as' (sortW ws) → Q (.ref p) H'
theorem scInOrder : FnScope ["words"] ["words"] (defScope sInOrder) := ⟨rfl, rfl, rfl, by decide +kernel, rfl, by decide +kernel, by decide +kernel⟩
theorem ok_inOrder {C c P0 : Addr} {T : List (Addr × Str)} {f : Addr} {fd : FuncData} (F : FunC K "in_order" "in_order" sInOrder f fd c) (G : Glob mg) (W : WordC K mg C) (TB : TabB base mg c P0) (hm : (P0, ("in_order" : Str) ++ ".<locals>." ++ "<lambda>") ∈ T)
    (hu : ∀ p ∈ T, p.1 = P0 → p.2 = ("in_order" : Str) ++ ".<locals>." ++ "<lambda>") : FnOk P w K mg base CX0 5 f fd ["words"] (spInOrder K C T) := by
  refine F.ok scInOrder (fun vs H Q E h => ?_) (fun A outer s H vs Q E hr h => ?_)
  · obtain ⟨a, as, ws, rfl, _⟩ := h
    rfl
  · refine ⟨_, pss_one (ps_ret (pe_sortLamC (n := 0) hr rfl G.sorted (pv 0) TB hm hu (fun _ => rfl) (fun _ => rfl) (fun y hy => ?_) (fun _ _ _ _ _ => rfl) rfl rfl rfl rfl (fun x hx => ?_))), ?_⟩
    · have e : y = (("word" : Str), NameKind.local) := by simpa using hy
      rw [e]
      decide
    · have e : x = (("word" : Str), NameKind.local) := by simpa using hx
      rw [e]
      decide
    · obtain ⟨a, as, ws, rfl, ha, hw, hap, hT, k⟩ := h
      obtain ⟨e1, e2, e3⟩ := paired_zip hw
      refine ret_of ⟨_, rfl, hT, fun H2 eN T2 => ⟨Addr × SyLex.Word, a, as.zip ws, Prod.fst, fun b => keyW b.2, rfl, ?_, ?_, ?_, fun b _ => keyW_depth b.2, fun b hb => ?_, fun l nl => ?_⟩⟩
      · have ez : (as.zip ws).map (fun b => V.ref b.1) = as.map V.ref := by
          rw [← e1, List.map_map]
          rw [e1]
          rfl
        rw [ez]
        exact .inl (.inl (eN _ _ ha fun ps z => by cases z))
      · intro d hd d' hd'
        obtain ⟨b, _, rfl⟩ := List.mem_map.mp hd
        obtain ⟨b', _, rfl⟩ := List.mem_map.mp hd'
        exact keyW_alike _ _
      · refine .inl fun d hd => ?_
        obtain ⟨b, _, rfl⟩ := List.mem_map.mp hd
        exact ⟨_, _, rfl⟩
      · obtain ⟨dx, r, t, h1, h2, h3⟩ := (e3 b hb).ext eN
        refine SayS.keys_tuple (l := [("reading", _, _), ("cost", _, _), ("text", _, _)]) rfl rfl rfl (by decide) h1 W.cl (fun _ _ _ => rfl) ?_
        exact .cons ⟨W.n1, _, rfl, .inr ⟨r, nI b.2.reading, rfl, by rw [h2, tI_nI], rfl⟩⟩ (.cons ⟨W.n5, _, rfl, .inl ⟨_, rfl, rfl⟩⟩ (.cons ⟨W.n2, _, rfl, .inr ⟨t, nI b.2.text, rfl, by rw [h3, tI_nI], rfl⟩⟩ .nil))
      · have hp := List.mergeSort_perm (as.zip ws) (PySem.W.dataLe false fun b => keyW b.2)
        have eE : ExtN H (upd H2 l (.lst (((as.zip ws).mergeSort (PySem.W.dataLe false fun b => keyW b.2)).map fun b => V.ref b.1))) := fun b o e n => by
          rw [upd_ne (ne_of_none (eN b o e n) nl)]
          exact eN b o e n
        refine k _ l (((as.zip ws).mergeSort (PySem.W.dataLe false fun b => keyW b.2)).map Prod.fst) (FreshN.of eN nl) eE (T2.ext fun b o e => by rw [upd_ne (ne_of_none e nl)]; exact e) ?_ ?_
        · rw [upd_same, List.map_map]
          rfl
        · have es := sorted_words Prod.snd (as.zip ws) (by rw [e2]; exact hap)
          rw [e2] at es
          rw [← es]
          exact paired_maps fun b hb => (e3 b (hp.mem_iff.mp hb)).ext eE
end Say
set_option Elab.async false
set_option linter.all false
set_option maxRecDepth 100000
set_option maxHeartbeats 400000
namespace Say
open PySem PySem.Spec PyProof.Rows L2
open SyBase SyLex SyWays
variable {P : Program} {w : World} {K : PySem.W.Frag} {mg : Str → Option Value} {base : Heap}
/-- a fault as it flies: its own values -/
abbrev faultFs (i k : Nat) : List (Str × V) := [("kind", .int (k : Nat)), ("line", .int (i : Nat))]
structure FaultyC (K : PySem.W.Frag) (mg : Str → Option Value) (C fI : Addr) : Prop where
  err : SayL.ErrC K C
  gC : mg "Faulty" = some (.ref C)
  nLine : PySem.W.findIn K (.ref C) "line" = some none
  nKind : PySem.W.findIn K (.ref C) "kind" = some none
  vE : PySem.W.findCls K (.type "Exception") (.type "type") "__init__" = some (.val (.builtin "Exception.__init__"))
  iC : PySem.W.findIn K (.ref C) "__init__" = some (some (.ref fI))
  tI : PySem.W.typeIn K (.ref fI) = some (.type "function")
def spFaultyInit (C : Addr) : Sp := fun vs H Q _ => ∃ (a : Addr) (x y : V), vs = [.ref a, x, y] ∧ H a = some (exo a C none) ∧
  ∀ H' d, H d = none → d ≠ a → H' a = some (exo a C (some d)) → H' d = some (exd d [("kind", y), ("line", x)]) → (∀ b, b ≠ a → b ≠ d → H' b = H b) → Q .non H'
theorem scFaultyInit : FnScope ["self", "line", "kind"] ["self", "line", "kind"] (defScope sFaultyInit) := ⟨rfl, rfl, rfl, by decide +kernel, rfl, by decide +kernel, by decide +kernel⟩
theorem ok_faultyInit {C fI : Addr} {fd : FuncData} (F : Fun K "__init__" "Faulty.__init__" sFaultyInit fI fd) (G : Glob mg) (T : FaultyC K mg C fI) : FnOk P w K mg base CX0 1 fI fd ["self", "line", "kind"] (spFaultyInit C) := by
  refine F.ok scFaultyInit (fun vs H Q E h => ?_) (fun cdv A outer s H vs Q E hr h => ?_)
  · obtain ⟨a, x, y, rfl, _⟩ := h
    rfl
  · refine ⟨_, pss_cons (ps_expr (SayL.pe_einit rfl G.exc T.vE (pa_cons (pv 0) pa_nil))) (pss_cons (SayL.ps_ev (pv 0) (pv 1)) (pss_one (SayL.ps_ev (pv 0) (pv 2)))), ?_⟩
    obtain ⟨a, x, y, rfl, ha, k⟩ := h
    refine ⟨_, rfl, a, C, [], rfl, by decide, T.err, ha, ?_⟩
    refine ⟨_, rfl, _, rfl, a, C, rfl, T.err, T.nLine, .inl ⟨ha, fun d nd ne => ?_⟩⟩
    refine ⟨_, rfl, _, rfl, a, C, rfl, T.err, T.nKind, .inr ⟨d, _, upd_same, (upd_ne ne).trans upd_same, by show 1 ≤ 900; decide, ?_⟩⟩
    refine k _ d nd ne ?_ upd_same fun b h1 h2 => ?_
    · rw [upd_ne (Ne.symm ne), upd_same]
    · rw [upd_ne h2, upd_ne h1, upd_ne h2]
/-- what a raise of it leaves -/
theorem fault_made {C : Addr} {H : Hp} {x y : V} {Q : XK} (k : ∀ H' d, Same H H' → H d = none → H' d = some (.xd [("kind", y), ("line", x)]) → Q (.ref C) (some d) H') :
    ∀ a, H a = none → spFaultyInit C (.ref a :: ([x, y] ++ [])) (upd H a (exo a C none)) (fun v H2 => v = .non ∧ ∃ (d : Addr) (fs : List (Str × V)), H2 a = some (exo a C (some d)) ∧ H2 d = some (exd d fs) ∧ H d = none ∧ Q (.ref C) (some d) (upd (del H2 a) d (.xd fs))) (fun _ _ _ => False) := fun a na => by
  refine ⟨a, x, y, rfl, upd_same, fun H' d nd ne h1 h2 but => ⟨rfl, d, _, h1, h2, by rw [upd_ne ne] at nd; exact nd, ?_⟩⟩
  rw [upd_ne ne] at nd
  refine k _ d (fun b o e => ?_) nd upd_same
  have ea : b ≠ a := ne_of_none e na
  have ed : b ≠ d := ne_of_none e nd
  rw [upd_ne ed, del_ne ea, but b ea ed, upd_ne ea]
  exact e
/-! ### the walk over the lines -/
theorem mkTold_has {es : List SayD.Seen} {b : Addr} {r t r' t' : List Int} : SayD.has (es ++ [⟨b, r, t⟩]) r' t' = (SayD.has es r' t' || decide (r = r' ∧ t = t')) := by
  unfold SayD.has
  rw [List.any_append]
  simp
theorem kindOf_cap (es : List SayD.Seen) (n : Nat) (wd : SyLex.Word) : kindOf es n (some (capW wd)) = if wd.small = false then 2 else if SayD.has es (nI wd.reading) (nI wd.text) = true then 3 else if 128 ≤ n then 4 else 0 := by
  show (if (capW wd).small = false then 2 else if SayD.has es (nI wd.reading) (nI wd.text) = true then 3 else if 128 ≤ n then 4 else 0) = _
  rw [capW_small]
theorem go_step {i : Nat} {l : Bytes} {ls : List Bytes} {ws : List SyLex.Word} {es : List SayD.Seen} (hs : ∀ r t, SayD.has es (nI r) (nI t) = ws.any (fun q => q.reading == r && q.text == t)) :
    goWords i (l :: ls) ws = match wordOf l with
      | none => .error (i, 1)
      | some wd => if kindOf es i (some (capW wd)) = 0 then goWords (i + 1) ls (ws ++ [wd]) else .error (i, kindOf es i (some (capW wd))) := by
  rw [goWords]
  cases wordOf l with
  | none => rfl
  | some wd =>
    simp only
    rw [kindOf_cap]
    have e : SayD.has es (nI wd.reading) (nI wd.text) = ws.any (fun q => q.same wd) := hs wd.reading wd.text
    simp only [e]
    by_cases h2 : wd.small = false
    · simp [h2]
    · rw [if_neg h2, if_neg h2]
      by_cases h3 : ws.any (fun q => q.same wd) = true
      · rw [if_pos h3, if_pos h3]
        simp
      · rw [if_neg h3, if_neg h3]
        by_cases h4 : WORDS ≤ i
        · rw [if_pos h4, if_pos (show 128 ≤ i from h4)]
          simp
        · rw [if_neg h4, if_neg (show ¬ 128 ≤ i from h4)]
          simp
theorem kind_zero {es : List SayD.Seen} {i : Nat} {wd : SyLex.Word} (h : kindOf es i (some (capW wd)) = 0) : wd.small = true ∧ SayD.has es (nI wd.reading) (nI wd.text) = false := by
  rw [kindOf_cap] at h
  split at h
  · omega
  · rename_i h2
    split at h
    · omega
    · rename_i h3
      exact ⟨by simpa using h2, by simpa using h3⟩
theorem apart_snoc {ws : List SyLex.Word} {wd : SyLex.Word} (ha : Apart ws) (hn : ws.any (fun q => q.reading == wd.reading && q.text == wd.text) = false) : Apart (ws ++ [wd]) := by
  have no : ∀ q ∈ ws, q.reading = wd.reading → q.text = wd.text → False := fun q hq e1 e2 => by
    have := List.any_eq_false.mp hn q hq
    rw [e1, e2] at this
    simp at this
  intro a h1 b h2 e1 e2
  rcases List.mem_append.mp h1 with g1 | g1
  · rcases List.mem_append.mp h2 with g2 | g2
    · exact ha a g1 b g2 e1 e2
    · have e : b = wd := by simpa using g2
      rw [e] at e1 e2
      exact (no a g1 e1 e2).elim
  · have ea : a = wd := by simpa using g1
    rw [ea] at e1 e2 ⊢
    rcases List.mem_append.mp h2 with g2 | g2
    · exact (no b g2 e1.symm e2.symm).elim
    · have e : b = wd := by simpa using g2
      exact e.symm
end Say
set_option Elab.async false
set_option linter.all false
set_option maxRecDepth 100000
set_option maxHeartbeats 1000000
namespace Say
open PySem PySem.Spec PyProof.Rows L2
open SyBase SyLex SyWays
open LamX (Tabs ExtN TabB TabS)
variable {P : Program} {w : World} {K : PySem.W.Frag} {mg : Str → Option Value} {base : Heap}
theorem raise_of {C : Addr} {t u : TE} {σ : L2.St} {H : Hp} {x y : V} {Q : XK} (h : IsE t σ H x) (g : IsE u σ H y) (k : ∀ H' d, Same H H' → H d = none → H' d = some (.xd [("kind", y), ("line", x)]) → Q (.ref C) (some d) H') :
    tMkO C (spFaultyInit C) [] (tCons t (tCons u tNil)) σ H Q := h _ (g _ ⟨by show 2 ≤ 1000; decide, fault_made k⟩)
theorem seq_seenPut {td ti : TE} {u : TS} {D : Ends} {σ : L2.St} {H : Hp} (q : td σ H fun x H1 => ti σ H1 fun y H2 => ∃ (d b : Addr) (es : List SayD.Seen) (r t : List Int), x = .ref d ∧ y = .ref b ∧ SayD.SeenAt P w H2 d es ∧ SayD.KeyAt H2 b r t ∧
    SayD.has es r t = false ∧ es.length < sizeLine ∧ u D σ (upd H2 d (SayD.SeenO P w d (es ++ [⟨b, r, t⟩])))) : tSeq (SayD.sSeenPut P w td ti) u D σ H := q
theorem seq_asgG {t : TE} {g : TG} {u : TS} {D : Ends} {σ : L2.St} {H : Hp} (q : t σ H fun x H1 => g x σ H1 (u D)) : tSeq (tAsg t g) u D σ H := q
/-- tuples and instances stay -/
def KeepTI (H H' : Hp) : Prop := ∀ b o, H b = some o → ((∃ xs, o = .tup xs) ∨ ∃ C dx fs, o = .ins C dx fs) → H' b = some o
theorem WordAt.keepTI {C a : Addr} {H H' : Hp} {wd : SyLex.Word} (h : WordAt C H a wd) (s : KeepTI H H') : WordAt C H' a wd := by
  obtain ⟨dx, r, t, h1, h2, h3⟩ := h
  exact ⟨dx, r, t, s _ _ h1 (.inr ⟨_, _, _, rfl⟩), s _ _ h2 (.inl ⟨_, rfl⟩), s _ _ h3 (.inl ⟨_, rfl⟩)⟩
theorem word_call {C a : Addr} {l : Bytes} {H : Hp} {Q : VK} {E : XK} (hS : SqL K H a (bI l)) (hl : l.length ≤ 100000) (k : ∀ v H', Same H H' → WordV C H' v ((wordOf l).map capW) → Q v H') : spWordOf C K [.ref a] H Q E := by
  refine ⟨a, l, rfl, hS, hl, fun e H' s => k _ H' s (by rw [e]; rfl), fun wd e H' x s _ h => k _ H' s ?_⟩
  rw [e]
  have := wordOf_short e
  exact ⟨x, rfl, h, Nat.le_trans this.1 hl, Nat.le_trans this.2 hl⟩
def spWordsOf (P : Program) (w : World) (K : PySem.W.Frag) (C CF : Addr) (T : List (Addr × Str)) : Sp := fun vs H Q E => ∃ (a : Addr) (b : Bytes), vs = [.ref a] ∧ SqL K H a (bI b) ∧ b.length ≤ 100000 ∧ Tabs T H ∧
  (∀ i k, readWords b = .error (i, k) → ∀ H' d, Same H H' → H d = none → H' d = some (.xd (faultFs i k)) → E (.ref CF) (some d) H') ∧
  (∀ L, readWords b = .ok L → ∀ H' p as, FreshN H p → ExtN H H' → Tabs T H' → H' p = some (.lst (as.map V.ref)) → WordsAt C H' as L → Q (.ref p) H')
theorem scWordsOf : FnScope ["t", "lines", "behind", "words", "told", "number", "line", "word", "kind"] ["t"] (defScope sWordsOf) := ⟨rfl, rfl, rfl, by decide +kernel, rfl, by decide +kernel, by decide +kernel⟩
theorem ok_wordsOf {C CF fF : Addr} {T : List (Addr × Str)} {f : Addr} {fd fdF : FuncData} (F : Fun K "words_of" "words_of" sWordsOf f fd) (G : Glob mg) (W : WordC K mg C) (TF : FaultyC K mg CF fF)
    (FF : FnOk P w K mg base CX0 1 fF fdF ["self", "line", "kind"] (spFaultyInit CF)) (bF : Binds K fdF ["self", "line", "kind"] [])
    (h1 : Has P w K mg base CX0 2 "lines_of" ["t"] (spLinesOf K)) (h2 : Has P w K mg base CX0 5 "word_of" ["line"] (spWordOf C K)) (h3 : Has P w K mg base CX0 2 "kind_of_fault" ["word", "told", "number"] (spKind P w C))
    (h4 : Has P w K mg base CX0 5 "in_order" ["words"] (spInOrder K C T)) : FnOk P w K mg base (L2.CX P w) 6 f fd ["t"] (spWordsOf P w K C CF T) := by
  obtain ⟨f1, fd1, G1, m1, k1, b1⟩ := h1
  obtain ⟨f2, fd2, G2, m2, k2, b2⟩ := h2
  obtain ⟨f3, fd3, G3, m3, k3, b3⟩ := h3
  obtain ⟨f4, fd4, G4, m4, k4, b4⟩ := h4
  refine F.okX scWordsOf (fun vs H Q E h => ?_) (fun cdv A outer s H vs Q E hr h => ?_)
  · obtain ⟨a, b, rfl, _⟩ := h
    rfl
  · refine ⟨_, pss_cons (ps_asg (pe_call G1 (hr.mono (by decide)) rfl m1 k1 b1 .nil pass0 (pa_cons (pv 0) pa_nil)) (pg_tup rfl (pgs_cons (pg_name (i := 1) scWordsOf.nd rfl (Or.inl rfl)) (pgs_cons (pg_name (i := 2) scWordsOf.nd rfl (Or.inl rfl)) pgs_nil))))
      (pss_cons (ps_set (i := 3) scWordsOf.nd rfl (Or.inl rfl) (pe_lst pa_nil))
      (pss_cons (ps_set (i := 4) scWordsOf.nd rfl (Or.inl rfl) SayD.pe_seenNew)
      (pss_cons (ps_for PassesOwn.leaving rfl (pi_enum rfl G.enumerate (pa_cons (pv 1) pa_nil)) (pg_tup rfl (pgs_cons (pg_name (i := 5) scWordsOf.nd rfl (Or.inl rfl)) (pgs_cons (pg_name (i := 6) scWordsOf.nd rfl (Or.inl rfl)) pgs_nil)))
        (pss_cons (ps_set (i := 7) scWordsOf.nd rfl (Or.inl rfl) (pe_call G2 hr rfl m2 k2 b2 .nil pass0 (pa_cons (pv 6) pa_nil)))
        (pss_cons (ps_set (i := 8) scWordsOf.nd rfl (Or.inl rfl) (pe_call G3 (hr.mono (by decide)) rfl m3 k3 b3 .nil pass0 (pa_cons (pv 7) (pa_cons (pv 4) (pa_cons (pv 5) pa_nil)))))
        (pss_cons (ps_if (pt_cmpR op_gt (pv 8) pe_int (nomark _)) (pss_one (ps_raise rfl (takes_of rfl rfl rfl rfl) (SayL.pmk_err TF.err TF.iC TF.tI FF (hr.mono (by decide)) bF pass0 rfl TF.gC (pa_cons (pv 5) (pa_cons (pv 8) pa_nil))))) pss_nil)
        (pss_cons (SayD.ps_seenPut (hu10 hr) (pv 4) (pe_tup (pa_cons (pe_fld (pv 7) rfl) (pa_cons (pe_fld (pv 7) rfl) pa_nil))))
        (pss_one (ps_expr (pe_bm PySem.F.plainAttrs_list PySem.F.slot_list_append PySem.F.type_list_append mt_append (pv 3) (pa_cons (pv 7) pa_nil)))))))))
      (pss_cons (ps_if (pt_truth (pv 2) (by intro _; rfl)) (pss_one (ps_raise rfl (takes_of rfl rfl rfl rfl) (SayL.pmk_err TF.err TF.iC TF.tI FF (hr.mono (by decide)) bF pass0 rfl TF.gC (pa_cons (pe_callB call_len_seq rfl G.len PySem.boot_len (pa_cons (pv 1) pa_nil)) (pa_cons pe_int pa_nil))))) pss_nil)
      (pss_one (ps_ret (pe_call G4 hr rfl m4 k4 b4 .nil pass0 (pa_cons (pv 3) pa_nil)))))))), ?_⟩
    obtain ⟨a, b, rfl, hS, hlen, hT, ke, kq⟩ := h
    obtain ⟨ls, z, hsp⟩ := splitB_last 0x0A b
    have eread := words_text hsp
    refine seq_asgG (call_of (arg1 (ie_v rfl) ⟨a, b, ls, z, rfl, hS, hlen, hsp, fun H1 p l q qs sm hp hl rows hq nl fresh => ?_⟩))
    refine ⟨p, _, rfl, SqT.of hp, rfl, _, _, rfl, gname ⟨_, _, rfl, gname ⟨rfl, ?_⟩⟩⟩
    refine seq_asg ⟨by show 0 ≤ sizeLine; decide, fun pw npw => ?_⟩
    refine seq_asg fun pd npd => ?_
    have epp : pw ≠ pd := ne_of_none upd_same npd
    have npd1 : H1 pd = none := by rw [upd_ne (Ne.symm epp)] at npd; exact npd
    have s3 : Same H1 (upd (upd H1 pw (.lst [])) pd (SayD.SeenO P w pd [])) := same_mine (same_upd npw) npd1
    have hls : ∀ li ∈ ls, li.length ≤ 100000 := fun li h => Nat.le_trans (splitB_short 0x0A b li (by rw [hsp]; exact List.mem_append_left _ h)) hlen
    have elen := Paired.length rows
    have hlsz : ls.length ≤ 100001 := by
      have := splitB_size 0x0A b
      rw [hsp, List.length_append] at this
      simp only [List.length_cons, List.length_nil] at this
      omega
    refine ⟨_, rfl, l, qs.map V.ref, rfl, .inl (.inl (s3 _ _ hl)), ?_⟩
    refine for_enum (xs := qs.map V.ref) (fun i σ Hc => ∃ (v5 v6 v7 v8 : Option V) (as : List Addr) (ws : List SyLex.Word) (es : List SayD.Seen), σ = [some (.ref a), some (.ref l), some (.ref q), some (.ref pw), some (.ref pd), v5, v6, v7, v8] ∧ Same H1 Hc ∧
      Hc pw = some (.lst (as.map V.ref)) ∧ SayD.SeenAt P w Hc pd es ∧ WordsAt C Hc as ws ∧ (∀ r t, SayD.has es (nI r) (nI t) = ws.any (fun q => q.reading == r && q.text == t)) ∧ es.length ≤ i ∧ as.length ≤ i ∧ goWords 0 ls [] = goWords i (ls.drop i) ws ∧ Apart ws)
      ⟨none, none, none, none, [], [], [], rfl, s3, (upd_ne epp).trans upd_same, ⟨upd_same, fun e h => by cases h⟩, .nil, fun r t => rfl, Nat.le_refl _, Nat.le_refl _, rfl, fun a h => by cases h⟩
      (fun i σ Hc _ ⟨_, _, _, _, _, _, _, _, sm, _⟩ => .inl (.inl (sm _ _ hl))) ?_ ?_
    · rintro i x σ Hc Tt hx ⟨v5, v6, v7, v8, as, ws, es, rfl, smc, hpw, hseen, hwords, hhas, hel, hal, hgo, hap⟩ nT
      rw [List.getElem?_map] at hx
      cases ei : qs[i]? with
      | none => rw [ei] at hx; cases hx
      | some qi =>
      rw [ei] at hx
      cases hx
      obtain ⟨li, eli, hqi⟩ := paired_get rows ei
      have hil : i < ls.length := (List.getElem?_eq_some_iff.mp eli).1
      have edrop : ls.drop i = li :: ls.drop (i + 1) := by
        obtain ⟨lt, rfl⟩ := List.getElem?_eq_some_iff.mp eli
        exact List.drop_eq_getElem_cons lt
      rw [edrop] at hgo
      have sT : Same Hc (upd Hc Tt (.tup [.int (i : Nat), .ref qi])) := same_upd nT
      refine ⟨Tt, _, rfl, SqT.of upd_same, rfl, _, _, rfl, gname ⟨_, _, rfl, gname ⟨rfl, ?_⟩⟩⟩
      refine seq_asg (call_of (arg1 (ie_v rfl) (word_call (.inl (.inl (sT _ _ (smc _ _ hqi)))) (hls li (List.mem_of_getElem? eli)) fun v7' H4 sm4 hv => ?_)))
      refine seq_asg (call_of (arg_is (ie_v rfl) (arg_is (ie_v rfl) (arg1 (ie_v rfl) ⟨v7', pd, i, es, (wordOf li).map capW, rfl, hv, seen_same hseen (sT.trans sm4), fun H5 sm5 => ?_⟩))))
      have sc5 : Same Hc H5 := (sT.trans sm4).trans sm5
      have sH5 : Same H H5 := sm.trans (smc.trans sc5)
      have fault : ∀ k : Nat, goWords 0 ls [] = .error (i, k) → ∀ H' d, Same H5 H' → H5 d = none → H' d = some (.xd [("kind", .int (k : Nat)), ("line", .int (i : Nat))]) → E (.ref CF) (some d) H' := fun k e H' d s n hd => by
        refine ke i k ?_ H' d (sH5.trans s) (not_there sH5 n) hd
        rw [eread]
        unfold textW
        rw [e]
      refine seq_if (b := decide (0 < kindOf es i ((wordOf li).map capW))) (is_test (ie_gtN (y := 0) (ie_v rfl) ie_c)) (fun e => ?_) (fun e => ?_)
      · refine raise_of (ie_v rfl) (ie_v rfl) (fault _ ?_)
        rw [hgo, go_step hhas]
        have e := of_decide_eq_true e
        cases eo : wordOf li with
        | none => rfl
        | some wd =>
          rw [eo] at e
          simp only [Option.map_some] at e ⊢
          rw [if_neg (by omega)]
      · have e := of_decide_eq_false e
        cases eo : wordOf li with
        | none =>
          rw [eo] at e
          exact absurd (show 0 < 1 by decide) e
        | some wd =>
        rw [eo] at e hv
        simp only [Option.map_some] at e hv
        have e0 : kindOf es i (some (capW wd)) = 0 := by omega
        obtain ⟨hsm, hno⟩ := kind_zero e0
        obtain ⟨x, rfl, hw, _, _⟩ := hv
        rw [capW_same hsm] at hw
        have hw5 := hw.same sm5
        obtain ⟨dx, r, t, hx, hr', ht⟩ := id hw5
        rw [go_step hhas, eo] at hgo
        simp only at hgo
        rw [if_pos e0] at hgo
        refine seq_next (seq_seenPut ⟨_, rfl, tup2_of (ie_fld (ie_v rfl) hx W.cl W.n1 rfl) (ie_fld (ie_v rfl) hx W.cl W.n2 rfl) fun p6 np6 => ⟨pd, p6, es, _, _, rfl, rfl, seen_same hseen (sc5.trans (same_upd np6)), wordAt_key hr' ht np6, hno, big (by omega), ?_⟩⟩)
        have s56 : Same H5 (upd H5 p6 (.tup [.ref r, .ref t])) := same_upd np6
        have sc6 : Same Hc (upd H5 p6 (.tup [.ref r, .ref t])) := sc5.trans s56
        have hkey := wordAt_key (wd := wd) hr' ht np6
        have hw6 := hw5.same s56
        generalize upd H5 p6 (.tup [.ref r, .ref t]) = H6 at s56 sc6 hkey hw6
        have hpw6 : H6 pw = some (.lst (as.map V.ref)) := sc6 _ _ hpw
        have hpd6 : H6 pd = some (SayD.SeenO P w pd es) := sc6 _ _ hseen.1
        have hpw7 : upd H6 pd (SayD.SeenO P w pd (es ++ [⟨p6, nI wd.reading, nI wd.text⟩])) pw = some (.lst (as.map V.ref)) := (upd_ne epp).trans hpw6
        refine ⟨_, rfl, Or.inl ⟨rfl, _, .inl (.inl hpw7)⟩, _, rfl, pw, _, _, rfl, rfl, hpw7, by rw [List.length_map]; exact big (by omega), ?_⟩
        have keep : KeepTI H6 (upd (upd H6 pd (SayD.SeenO P w pd (es ++ [⟨p6, nI wd.reading, nI wd.text⟩]))) pw (.lst (as.map V.ref ++ [.ref x]))) := fun c o ec ti => by
          have c1 : c ≠ pw := fun zz => by
            rw [zz, hpw6] at ec
            cases ec
            rcases ti with ⟨_, ti⟩ | ⟨_, _, _, ti⟩ <;> cases ti
          have c2 : c ≠ pd := fun zz => by
            rw [zz, hpd6] at ec
            cases ec
            rcases ti with ⟨_, ti⟩ | ⟨_, _, _, ti⟩
            · exact SayD.seenO_tup ti
            · exact SayD.seenO_ins ti
          rw [upd_ne c1, upd_ne c2]
          exact ec
        refine ⟨_, _, _, _, as ++ [x], ws ++ [wd], es ++ [⟨p6, nI wd.reading, nI wd.text⟩], rfl, same_mine (same_mine (smc.trans sc6) npd1) npw, ?_, ⟨(upd_ne (Ne.symm epp)).trans upd_same, fun e' he' => ?_⟩, ?_, fun r' t' => ?_, ?_, ?_, hgo, apart_snoc hap (by rw [← hhas]; exact hno)⟩
        · rw [upd_same, List.map_append]
          rfl
        · rcases List.mem_append.mp he' with he' | he'
          · exact ((hseen.2 e' he').same fun c xs zz => sc6 c _ zz).same fun c xs zz => keep c _ zz (.inl ⟨_, rfl⟩)
          · have : e' = ⟨p6, nI wd.reading, nI wd.text⟩ := by simpa using he'
            rw [this]
            exact hkey.same fun c xs zz => keep c _ zz (.inl ⟨_, rfl⟩)
        · exact paired_snoc (hw6.keepTI keep) (paired_mono (fun _ _ h => (h.same sc6).keepTI keep) hwords)
        · rw [mkTold_has, List.any_append, hhas]
          congr 1
          have : decide (nI wd.reading = nI r' ∧ nI wd.text = nI t') = (wd.reading == r' && wd.text == t') := by
            rw [Bool.eq_iff_iff]
            simp only [decide_eq_true_eq, Bool.and_eq_true, beq_iff_eq]
            exact ⟨fun hh => ⟨nI_inj hh.1, nI_inj hh.2⟩, fun hh => by rw [hh.1, hh.2]; exact ⟨rfl, rfl⟩⟩
          rw [this]
          simp
        · rw [List.length_append]
          simp
          omega
        · rw [List.length_append]
          simp
          omega
    · rintro σ Hc ⟨v5, v6, v7, v8, as, ws, es, rfl, smc, hpw, hseen, hwords, hhas, hel, hal, hgo, hap⟩
      rw [List.length_map, elen, List.drop_length] at hgo
      have hok : goWords 0 ls [] = .ok ws := hgo
      have sH : Same H Hc := sm.trans smc
      dsimp only
      refine seq_if (b := !(bI z).isEmpty) (fun Q' q' => ⟨_, rfl, _, Or.inl ⟨_, .inl (.inl (smc _ _ hq)), rfl⟩, q'⟩) (fun e => ?_) (fun e => ?_)
      · refine raise_of (ie_cast (ie_len (ie_v rfl) (.inl (.inl (smc _ _ hl)))) (by rw [List.length_map, elen])) ie_c (fun H' d s n hd => ke ls.length 1 ?_ H' d (sH.trans s) (not_there sH n) hd)
        rw [eread]
        unfold textW
        rw [hok]
        have : z ≠ [] := fun zz => by rw [zz] at e; cases e
        simp only
        rw [if_neg this]
      · have ez : z = [] := by
          cases z with
          | nil => rfl
          | cons c r => cases e
        have eok : readWords b = .ok (sortW ws) := by
          rw [eread]
          unfold textW
          rw [hok]
          simp only
          rw [if_pos ez]
        refine seq_next (ret_of (call_of (arg1 (ie_v rfl) ⟨pw, as, ws, rfl, hpw, hwords, hap, hT.ext sH, fun H' p' as' fr eN T' hp' hw' => ?_⟩)))
        exact kq _ eok H' p' as' (fr.back sH) ((ExtN.of sH).trans eN) T' hp' hw'
end Say
set_option Elab.async false
set_option linter.all false
set_option maxRecDepth 100000
set_option maxHeartbeats 1000000
namespace Say
open PySem PySem.Spec PyProof.Rows L2
open SyBase SyLex SyWays
variable {P : Program} {w : World} {K : PySem.W.Frag} {mg : Str → Option Value} {base : Heap}
/-- the numbers that a line tells, as many as asked -/
def good (l : Bytes) (m : Nat) : Prop := (splitB 0x20 l).length = m ∧ ((splitB 0x20 l).map decimalOf).any Option.isNone = false
def spNumbersOf (K : PySem.W.Frag) (CF : Addr) : Sp := fun vs H Q E => ∃ (a : Addr) (l : Bytes) (n m : Nat), vs = [.ref a, .int (n : Nat), .int (m : Nat)] ∧ SqL K H a (bI l) ∧ l.length ≤ 100000 ∧
  (¬ good l m → ∀ H' d, Same H H' → H d = none → H' d = some (.xd (faultFs n 1)) → E (.ref CF) (some d) H') ∧
  (good l m → ∀ H' p, Same H H' → H' p = some (.lst (((splitB 0x20 l).map decimalOf).map numV)) → Q (.ref p) H')
theorem scNumbersOf : FnScope ["line", "number", "many", "numbers", "part"] ["line", "number", "many"] (defScope sNumbersOf) := ⟨rfl, rfl, rfl, by decide +kernel, rfl, by decide +kernel, by decide +kernel⟩
theorem ok_numbersOf {CF fF : Addr} {f : Addr} {fd fdF : FuncData} (F : Fun K "numbers_of" "numbers_of" sNumbersOf f fd) (G : Glob mg) (TF : FaultyC K mg CF fF)
    (FF : FnOk P w K mg base CX0 1 fF fdF ["self", "line", "kind"] (spFaultyInit CF)) (bF : Binds K fdF ["self", "line", "kind"] [])
    (h1 : Has P w K mg base CX0 2 "parts_of" ["line"] (spPartsOf K)) (h3 : Has P w K mg base CX0 1 "number_of" ["part"] (spNumberOf K)) : FnOk P w K mg base (L2.CX P w) 3 f fd ["line", "number", "many"] (spNumbersOf K CF) := by
  obtain ⟨f1, fd1, G1, m1, k1, b1⟩ := h1
  obtain ⟨f3, fd3, G3, m3, k3, b3⟩ := h3
  refine F.okX scNumbersOf (fun vs H Q E h => ?_) (fun cdv A outer s H vs Q E hr h => ?_)
  · obtain ⟨a, l, n, m, rfl, _⟩ := h
    rfl
  · refine ⟨_, pss_cons (ps_setLc (i := 3) (own := [("part", 4)]) (g := gName 4) (tt := tYes) rfl scNumbersOf.nd rfl rfl (sw_true rfl rfl rfl (by decide +kernel)) (pi_list (pe_call G1 hr rfl m1 k1 b1 .nil pass0 (pa_cons (pv 0) pa_nil)))
          (blkOk_by (N := ["line", "number", "many", "numbers", "part"]) (sc := defScope sNumbersOf) (by decide +kernel)) (fun _ _ _ _ _ => pg_name (i := 4) scNumbersOf.nd rfl (Or.inl rfl)) (fun _ _ _ _ _ => pts_nil)
          (fun _ _ _ _ _ => pe_call G3 (hr.mono (by decide)) rfl m3 k3 b3 .nil pass0 (pa_cons (pv 4) pa_nil)))
      (pss_cons (ps_if (PW.pt (pw_or (pt_cmpR op_ne (pe_callB call_len_seq rfl G.len PySem.boot_len (pa_cons (pv 3) pa_nil)) (pv 2) (nomark _)) (pw_or1 (pt_cmpR op_in_seq pe_non (pv 3) rfl))))
          (pss_one (ps_raise rfl (takes_of rfl rfl rfl rfl) (SayL.pmk_err TF.err TF.iC TF.tI FF (hr.mono (by decide)) bF pass0 rfl TF.gC (pa_cons (pv 1) (pa_cons pe_int pa_nil))))) pss_nil)
      (pss_one (ps_ret (pv 3)))), ?_⟩
    obtain ⟨a, l, n, m, rfl, hS, hlen, kn, kg⟩ := h
    refine seq_asg (call_of (arg1 (ie_v rfl) ⟨a, l, rfl, hS, hlen, fun H1 p qs sm np hp rows fresh => ⟨p, rfl, ⟨_, .inl (.inl hp)⟩, fun D nD => ?_⟩⟩))
    have short : ∀ b ∈ splitB 0x20 l, b.length ≤ 100000 := fun b hb => Nat.le_trans (splitB_short 0x20 l b hb) hlen
    have hsz := splitB_size 0x20 l
    refine lc_list (xs := qs.map V.ref) (fun j Hc => Same H1 Hc ∧ Hc D = some (.lst (((splitB 0x20 l).take j).map fun b => numV (decimalOf b)))) ⟨same_upd nD, upd_same⟩ (fun j Hc _ q => .inl (.inl (q.1 p _ hp))) ?_ ?_
    · rintro j v Hc hx ⟨sm5, hD⟩
      rw [List.getElem?_map] at hx
      cases ej : qs[j]? with
      | none => rw [ej] at hx; cases hx
      | some q =>
        rw [ej] at hx
        cases hx
        obtain ⟨b, eb, hb⟩ := paired_get rows ej
        refine gname ⟨rfl, yes_of ?_⟩
        refine ⟨_, rfl, q, b, rfl, .inl (.inl (sm5 _ _ hb)), short b (List.mem_of_getElem? eb), _, hD, ?_, same_mine sm5 nD, ?_⟩
        · rw [List.length_map, List.length_take]
          exact big (by omega)
        · rw [upd_same, take_more eb, List.map_append]
          rfl
    · rintro Hc ⟨sm5, hD⟩
      have elen := Paired.length rows
      rw [List.length_map, elen, List.take_length] at hD
      have hD : Hc D = some (.lst (((splitB 0x20 l).map decimalOf).map numV)) := by
        rw [hD, List.map_map]
        rfl
      have sAll : Same H Hc := sm.trans sm5
      refine seq_if (b := !decide ((splitB 0x20 l).length = m) || ((splitB 0x20 l).map decimalOf).any Option.isNone) (is_or (is_test (ie_neN (ie_cast (ie_len (ie_v rfl) (.inl (.inl hD))) (by rw [List.length_map, List.length_map])) (ie_v rfl))) fun _ => is_test (ie_inN (ie_v rfl) (.inl (.inl hD)))) (fun e => ?_) (fun e => ?_)
      · refine raise_of (ie_v rfl) ie_c (fun H' d s n' hd => kn (fun g => ?_) H' d (sAll.trans s) (not_there sAll n') hd)
        rw [decide_eq_true g.1, g.2] at e
        cases e
      · rw [Bool.or_eq_false_iff] at e
        exact seq_next ⟨_, rfl, kg ⟨by simpa using e.1, e.2⟩ Hc D sAll hD⟩
/-- alone_of -/
def spAloneOf (K : PySem.W.Frag) (CF : Addr) : Sp := fun vs H Q E => ∃ (a : Addr) (l : Bytes), vs = [.ref a] ∧ SqL K H a (bI l) ∧ l.length ≤ 100000 ∧
  (decimalOf l = none → ∀ H' d, Same H H' → H d = none → H' d = some (.xd (faultFs 0 1)) → E (.ref CF) (some d) H') ∧
  ∀ n, decimalOf l = some n → (COST < n → ∀ H' d, Same H H' → H d = none → H' d = some (.xd (faultFs 0 2)) → E (.ref CF) (some d) H') ∧ (¬ COST < n → ∀ H', Same H H' → Q (.int (n : Nat)) H')
theorem scAloneOf : FnScope ["line", "cost"] ["line"] (defScope sAloneOf) := ⟨rfl, rfl, rfl, by decide +kernel, rfl, by decide +kernel, by decide +kernel⟩
theorem good_one {l : Bytes} (g : good l 1) : ∃ n, decimalOf l = some n ∧ (splitB 0x20 l).map decimalOf = [some n] := by
  obtain ⟨p, ep⟩ := one g.1
  have e := one_number l
  have h := g.2
  rw [ep] at e h ⊢
  simp only at e
  cases ed : decimalOf p with
  | none => rw [List.map_cons, ed] at h; cases h
  | some n =>
    refine ⟨n, by rw [e, ed], ?_⟩
    rw [List.map_cons, ed]
    rfl
theorem bad_one {l : Bytes} (g : ¬ good l 1) : decimalOf l = none := by
  cases ed : decimalOf l with
  | none => rfl
  | some n =>
    refine (g ?_).elim
    have hd := (decimal_digits ed).1
    have e : splitB 0x20 l = [l] := splitB_one fun c hc => dig_ne (List.all_eq_true.mp hd c hc)
    refine ⟨by rw [e]; rfl, ?_⟩
    rw [e, List.map_cons, ed]
    rfl
theorem ok_aloneOf {CF fF : Addr} {f : Addr} {fd fdF : FuncData} (F : Fun K "alone_of" "alone_of" sAloneOf f fd) (G : Glob mg) (TF : FaultyC K mg CF fF)
    (FF : FnOk P w K mg base CX0 1 fF fdF ["self", "line", "kind"] (spFaultyInit CF)) (bF : Binds K fdF ["self", "line", "kind"] [])
    (h1 : Has P w K mg base (L2.CX P w) 3 "numbers_of" ["line", "number", "many"] (spNumbersOf K CF)) : FnOk P w K mg base (L2.CX P w) 4 f fd ["line"] (spAloneOf K CF) := by
  obtain ⟨f1, fd1, G1, m1, k1, b1⟩ := h1
  refine F.okX scAloneOf (fun vs H Q E h => ?_) (fun cdv A outer s H vs Q E hr h => ?_)
  · obtain ⟨a, l, rfl, _⟩ := h
    rfl
  · refine ⟨_, pss_cons (ps_set (i := 1) scAloneOf.nd rfl (Or.inl rfl) (pe_ix ix_list (pe_call (E := E) G1 hr rfl m1 k1 b1 .nil (passes_call (takes_of rfl rfl rfl rfl) (fun _ _ _ _ h => h)) (pa_cons (pv 0) (pa_cons pe_int (pa_cons pe_int pa_nil)))) pe_int (fun _ _ => rfl)))
      (pss_cons (ps_if (pt_cmpR op_gt (pv 1) (pe_num G.cost rfl) (nomark _)) (pss_one (ps_raise rfl (takes_of rfl rfl rfl rfl) (SayL.pmk_err TF.err TF.iC TF.tI FF (hr.mono (by decide)) bF pass0 rfl TF.gC (pa_cons pe_int (pa_cons pe_int pa_nil))))) pss_nil)
      (pss_one (ps_ret (pv 1)))), ?_⟩
    obtain ⟨a, l, rfl, hS, hlen, kn, ks⟩ := h
    refine seq_asg (call_of (arg_is (ie_v rfl) (arg_is (ie_c (v := .int ((0 : Nat) : Int))) (arg1 (ie_c (v := .int ((1 : Nat) : Int))) ⟨a, l, 0, 1, rfl, hS, hlen, fun g => kn (bad_one g), fun g H1 p sm hp => ?_⟩))))
    obtain ⟨n, en, es⟩ := good_one g
    rw [es] at hp
    refine ⟨p, _, 0, .int (cap n : Nat), rfl, rfl, .inl (.inl hp), rfl, ?_⟩
    obtain ⟨kb, kq⟩ := ks n en
    show tSeq (tIfS _ _ _) _ _ _ _
    refine seq_if (b := decide (65535 < cap n)) (is_test (ie_gtN (y := 65535) (ie_v rfl) ie_c)) (fun e => ?_) (fun e => ?_)
    · have e := of_decide_eq_true e
      refine raise_of ie_c ie_c (fun H' d s n' hd => kb ?_ H' d (sm.trans s) (not_there sm n') hd)
      unfold COST
      unfold cap TOP at e
      omega
    · have e := of_decide_eq_false e
      have ec : cap n = n := by
        unfold cap TOP at e ⊢
        omega
      rw [ec]
      rw [ec] at e
      exact seq_next ⟨_, rfl, kq (by unfold COST; omega) H1 sm⟩
end Say
set_option Elab.async false
set_option linter.all false
set_option maxRecDepth 100000
set_option maxHeartbeats 1000000
namespace Say
open PySem PySem.Spec PyProof.Rows L2
open SyBase SyLex SyWays
variable {P : Program} {w : World} {K : PySem.W.Frag} {mg : Str → Option Value} {base : Heap}
/-! ### joins as a dict keeps them -/
def keyJ (j : Join) : List Key := [Sum.inl ((j.right : Nat) : Int), Sum.inl ((j.left : Nat) : Int)]
def kvJ (js : List Join) : List (List Key × V) := js.map fun j => (keyJ j, V.int ((j.cost : Nat) : Int))
def ApartJ (js : List Join) : Prop := js.Pairwise fun a b => ¬ (a.right = b.right ∧ a.left = b.left)
theorem keyJ_eq {a b : Join} : keyJ a = keyJ b ↔ a.right = b.right ∧ a.left = b.left := by
  unfold keyJ
  constructor
  · intro h
    simp only [List.cons.injEq, Sum.inl.injEq, and_true] at h
    omega
  · rintro ⟨h1, h2⟩
    rw [h1, h2]
theorem kvJ_any (js : List Join) (j : Join) : ((kvJ js).any fun kv => decide (kv.1 = keyJ j)) = js.any (fun q => q.right == j.right && q.left == j.left) := by
  unfold kvJ
  rw [List.any_map]
  congr 1
  funext q
  show decide (keyJ q = keyJ j) = _
  rw [Bool.eq_iff_iff, decide_eq_true_eq, keyJ_eq]
  simp
theorem kvJ_some (js : List Join) (j : Join) : (valV (kvJ js) (keyJ j)).isSome = js.any (fun q => q.right == j.right && q.left == j.left) := by
  rw [← kvJ_any]
  unfold valV
  rw [Option.isSome_map, Bool.eq_iff_iff, List.find?_isSome]
  simp
theorem kvJ_put {js : List Join} {j : Join} (h : js.any (fun q => q.right == j.right && q.left == j.left) = false) : putK (kvJ js) (keyJ j) (.int ((j.cost : Nat) : Int)) = kvJ (js ++ [j]) := by
  unfold putK
  rw [kvJ_any, h, if_neg Bool.false_ne_true]
  unfold kvJ
  rw [List.map_append]
  rfl
theorem apartJ_snoc {js : List Join} {j : Join} (ha : ApartJ js) (h : js.any (fun q => q.right == j.right && q.left == j.left) = false) : ApartJ (js ++ [j]) := by
  refine List.pairwise_append.mpr ⟨ha, List.pairwise_singleton _ _, fun a ha' b hb => ?_⟩
  have e : b = j := by simpa using hb
  subst e
  have := List.any_eq_false.mp h a ha'
  simpa using this
theorem apartJ_take {js : List Join} {i : Nat} {j : Join} (ha : ApartJ js) (e : js[i]? = some j) : ((js.take i).filter fun q => q.cost != 0).any (fun q => q.right == j.right && q.left == j.left) = false := by
  have hl : js = js.take i ++ j :: js.drop (i + 1) := by
    obtain ⟨lt, rfl⟩ := List.getElem?_eq_some_iff.mp e
    rw [← List.drop_eq_getElem_cons lt, List.take_append_drop]
  rw [List.any_eq_false]
  intro q hq
  have hq' := (List.mem_filter.mp hq).1
  unfold ApartJ at ha
  rw [hl] at ha
  have := (List.pairwise_append.mp ha).2.2 q hq' j List.mem_cons_self
  simpa using this
structure JoinsC (K : PySem.W.Frag) (mg : Str → Option Value) (C : Addr) : Prop where
  gC : mg "Joins" = some (.ref C)
  cl : Cls K C
  n1 : NoAttr K C "alone"
  n2 : NoAttr K C "costs"
def JoinsAt (C : Addr) (H : Hp) (a : Addr) (n : Nat) (js : List Join) : Prop := ∃ dx d, H a = some (.ins C dx [("alone", .int (n : Nat)), ("costs", .ref d)]) ∧ H d = some (.dT (kvJ js))
def spJoinsInit (C : Addr) : Sp := fun vs H Q _ => ∃ (x dx : Addr) (u v : V), vs = [.ref x, u, v] ∧ H x = some (.ins C dx []) ∧ ∀ H', H' x = some (.ins C dx [("alone", u), ("costs", v)]) → But x H H' → Q .non H'
theorem scJoinsInit : FnScope ["self", "alone", "costs"] ["self", "alone", "costs"] (defScope sJoinsInit) := ⟨rfl, rfl, rfl, by decide +kernel, rfl, by decide +kernel, by decide +kernel⟩
theorem ok_joinsInit {C f : Addr} {fd : FuncData} (F : Fun K "__init__" "Joins.__init__" sJoinsInit f fd) (T : JoinsC K mg C) : FnOk P w K mg base CX0 1 f fd ["self", "alone", "costs"] (spJoinsInit C) := by
  refine F.ok scJoinsInit (fun vs H Q E h => ?_) (fun cdv A outer s H vs Q E hr h => ?_)
  · obtain ⟨x, dx, u, v, rfl, _⟩ := h
    rfl
  · refine ⟨_, pss_cons (ps_fld (pv 0) (pv 1) rfl) (pss_one (ps_fld (pv 0) (pv 2) rfl)), ?_⟩
    obtain ⟨x, dx, u, v, rfl, hx, k⟩ := h
    refine ⟨_, rfl, _, rfl, x, C, dx, _, rfl, hx, T.cl, T.n1, by decide, ?_⟩
    refine ⟨_, rfl, _, rfl, x, C, dx, _, rfl, upd_same, T.cl, T.n2, by show 1 < 1000; decide, ?_⟩
    exact k _ upd_same ((But.refl x H).upd).upd
/-- what is made of an alone and a dict of costs -/
theorem joins_make {C : Addr} {H : Hp} {n : Nat} {d : Addr} {js : List Join} {Q : VK} (hd : H d = some (.dT (kvJ js))) (k : ∀ H' x, Same H H' → H x = none → JoinsAt C H' x n js → Q (.ref x) H') :
    ∀ x dx, H x = none → H dx = none → dx ≠ x → spJoinsInit C (.ref x :: ([.int (n : Nat), .ref d] ++ [])) (upd (upd H dx (.own x)) x (.ins C dx [])) (fun v H2 => v = .non ∧ Q (.ref x) H2) E0 := fun x dx nx ndx ne => by
  refine ⟨x, dx, _, _, rfl, upd_same, fun H' hx but => ⟨rfl, ?_⟩⟩
  have keep : Same H H' := fun b o e => by
    rw [but b (ne_of_none e nx), upd_ne (ne_of_none e nx), upd_ne (ne_of_none e ndx)]
    exact e
  exact k H' x keep nx ⟨dx, d, hx, keep _ _ hd⟩
def spNewJoins (C : Addr) : Sp := fun vs H Q _ => vs = [] ∧ ∀ H' p, Same H H' → H p = none → JoinsAt C H' p 65535 [] → Q (.ref p) H'
theorem scNewJoins : FnScope [] [] (defScope sNewJoins) := ⟨rfl, rfl, rfl, by decide +kernel, rfl, by decide +kernel, by decide +kernel⟩
theorem ok_newJoins {C fI : Addr} {f : Addr} {fd fdI : FuncData} (F : Fun K "new_joins" "new_joins" sNewJoins f fd) (G : Glob mg) (T : JoinsC K mg C) (M : Mk K C fI)
    (FI : FnOk P w K mg base CX0 1 fI fdI ["self", "alone", "costs"] (spJoinsInit C)) (b0 : Binds K fdI ["self", "alone", "costs"] []) : FnOk P w K mg base CX0 3 f fd [] (spNewJoins C) := by
  refine F.ok scNewJoins (fun vs H Q E h => ?_) (fun cdv A outer s H vs Q E hr h => ?_)
  · obtain ⟨rfl, _⟩ := h
    rfl
  · refine ⟨_, pss_one (ps_ret (pe_make M FI hr rfl T.gC b0 .nil pass0 (pa_cons (pe_num G.cost rfl) (pa_cons pe_dnewT pa_nil)))), ?_⟩
    obtain ⟨rfl, k⟩ := h
    refine ret_of (make_of (arg_is ie_c ?_))
    intro d nd
    refine joins_make (n := 65535) (js := []) upd_same fun H' x s nx h => k H' x (fun b o e => s b o (by rw [upd_ne (ne_of_none e nd)]; exact e)) (by
      have : x ≠ d := fun z => by rw [z, upd_same] at nx; cases nx
      rw [upd_ne this] at nx
      exact nx) h
/-! ### the joins that cost something -/
def spWithoutFree : Sp := fun vs H Q _ => ∃ (d : Addr) (js : List Join), vs = [.ref d] ∧ H d = some (.dT (kvJ js)) ∧ ApartJ js ∧ js.length ≤ 100001 ∧
  ∀ H' p, Same H H' → H' p = some (.dT (kvJ (js.filter fun j => j.cost != 0))) → Q (.ref p) H'
theorem scWithoutFree : FnScope ["told", "costs", "sorts", "cost"] ["told"] (defScope sWithoutFree) := ⟨rfl, rfl, rfl, by decide +kernel, rfl, by decide +kernel, by decide +kernel⟩
theorem ok_withoutFree {f : Addr} {fd : FuncData} (F : Fun K "without_free" "without_free" sWithoutFree f fd) (G : Glob mg) : FnOk P w K mg base CX0 1 f fd ["told"] spWithoutFree := by
  refine F.ok scWithoutFree (fun vs H Q E h => ?_) (fun cdv A outer s H vs Q E hr h => ?_)
  · obtain ⟨d, js, rfl, _⟩ := h
    rfl
  · refine ⟨_, pss_cons (ps_set (i := 1) scWithoutFree.nd rfl (Or.inl rfl) pe_dnewT)
      (pss_cons (ps_lock (ps_for PassesOwn.never rfl (SayI.pi_itemsT (pv 0)) (pg_tup rfl (pgs_cons (pg_name (i := 2) scWithoutFree.nd rfl (Or.inl rfl)) (pgs_cons (pg_name (i := 3) scWithoutFree.nd rfl (Or.inl rfl)) pgs_nil)))
        (pss_one (ps_if (pt_cmpR op_gt (pv 3) pe_int (nomark _)) (pss_one (ps_dput (hu_of hr) (pv 1) (pv 2) (pv 3) rfl)) pss_nil))))
      (pss_one (ps_ret (pv 1)))), ?_⟩
    obtain ⟨d, js, rfl, hd, ha, hl, k⟩ := h
    refine seq_asg fun pc npc => ?_
    have epd : d ≠ pc := ne_of_none hd npc
    refine ⟨d, _, (upd_ne epd).trans hd, trivial, fun od => ?_⟩
    refine ⟨_, rfl, d, od, kvJ js, rfl, upd_same, ?_⟩
    refine SayI.for_itemsT (fun i σ Hc => (∃ v2 v3 : Option V, σ = [some (.ref d), some (.ref pc), v2, v3]) ∧ (∀ b o, b ≠ d → H b = some o → Hc b = some o) ∧ Hc d = some (.frz od (.dT (kvJ js))) ∧ Hc pc = some (.dT (kvJ ((js.take i).filter fun j => j.cost != 0))))
      ⟨⟨none, none, rfl⟩, fun b o hb e => by rw [upd_ne hb, upd_ne (ne_of_none e npc)]; exact e, upd_same, by rw [upd_ne (Ne.symm epd), upd_same]; rfl⟩ (fun i σ Hc _ p => p.2.2.1) ?_ ?_
    · rintro i k' v q σ Hc T hx ⟨⟨v2, v3, rfl⟩, sm, hdc, hpc⟩ hq nT
      unfold kvJ at hx
      rw [List.getElem?_map] at hx
      cases ej : js[i]? with
      | none => rw [ej] at hx; cases hx
      | some j =>
      rw [ej] at hx
      cases hx
      have e1 : d ≠ T := ne_of_none hdc nT
      have e2 : pc ≠ T := ne_of_none hpc nT
      have e3 : q ≠ T := ne_of_none hq nT
      refine ⟨T, _, rfl, SqT.of upd_same, rfl, _, _, rfl, gname ⟨_, _, rfl, gname ⟨rfl, ?_⟩⟩⟩
      refine if_is (b := decide (0 < j.cost)) (is_test (ie_gtN (y := 0) (ie_v rfl) ie_c)) (fun e => ?_) (fun e => ?_)
      · have e := of_decide_eq_true e
        have epc : upd Hc T (.tup [.ref q, .int ((j.cost : Nat) : Int)]) pc = some (.dT (kvJ ((js.take i).filter fun j => j.cost != 0))) := (upd_ne e2).trans hpc
        have hlen : (kvJ ((js.take i).filter fun j => j.cost != 0)).length < sizeLine := by
          unfold kvJ
          rw [List.length_map]
          have := List.length_filter_le (fun j : Join => j.cost != 0) (js.take i)
          rw [List.length_take] at this
          exact big (by omega)
        refine ⟨_, rfl, _, rfl, _, rfl, pc, _, rfl, DPut.t epc (k := keyJ j) ((upd_ne e3).trans hq) hlen, ⟨_, _, rfl⟩, fun b o hb eb => ?_, ?_, ?_⟩
        · have n1 : b ≠ pc := ne_of_none eb npc
          have n2 : b ≠ T := ne_of_none (sm b o hb eb) nT
          rw [upd_ne n1, upd_ne n2]
          exact sm b o hb eb
        · rw [upd_ne epd, upd_ne e1]
          exact hdc
        · rw [upd_same, kvJ_put (apartJ_take ha ej), take_more ej, List.filter_append]
          have : [j].filter (fun j => j.cost != 0) = [j] := by
            rw [List.filter_cons, if_pos (by simp; omega)]
            rfl
          rw [this]
      · have e := of_decide_eq_false e
        refine ⟨⟨_, _, rfl⟩, fun b o hb eb => ?_, ?_, ?_⟩
        · have n2 : b ≠ T := ne_of_none (sm b o hb eb) nT
          rw [upd_ne n2]
          exact sm b o hb eb
        · rw [upd_ne e1]
          exact hdc
        · rw [upd_ne e2, hpc, take_more ej, List.filter_append]
          have : [j].filter (fun j => j.cost != 0) = [] := by
            rw [List.filter_cons, if_neg (by simp; omega)]
            rfl
          rw [this, List.append_nil]
    · rintro σ Hc ⟨⟨v2, v3, rfl⟩, sm, hdc, hpc⟩
      have : (kvJ js).length = js.length := by unfold kvJ; rw [List.length_map]
      rw [this, List.take_length] at hpc
      refine ⟨hdc, _, rfl, k _ pc (fun b o e => ?_) ?_⟩
      · by_cases hb : b = d
        · subst hb
          rw [upd_same, ← hd]
          exact e
        · rw [upd_ne hb]
          exact sm b o hb e
      · rw [upd_ne (Ne.symm epd)]
        exact hpc
end Say
set_option Elab.async false
set_option linter.all false
set_option maxRecDepth 100000
set_option maxHeartbeats 1000000
namespace Say
open PySem PySem.Spec PyProof.Rows L2
open SyBase SyLex SyWays
variable {P : Program} {w : World} {K : PySem.W.Frag} {mg : Str → Option Value} {base : Heap}
theorem join_good {l : Bytes} (g : good l 3) : ∃ j, joinOf l = some j ∧ (splitB 0x20 l).map decimalOf = [some j.right, some j.left, some j.cost] := by
  obtain ⟨x, y, c, e⟩ := three g.1
  have h := g.2
  have ej := joinOf_three e
  rw [e] at h ⊢
  simp only [List.map_cons, List.map_nil] at h ⊢
  cases ex : decimalOf x with
  | none => rw [ex] at h; cases h
  | some nx =>
  cases ey : decimalOf y with
  | none => rw [ex, ey] at h; cases h
  | some ny =>
  cases ec : decimalOf c with
  | none => rw [ex, ey, ec] at h; cases h
  | some nc =>
    rw [ex, ey, ec] at ej
    exact ⟨⟨nx, ny, nc⟩, ej, rfl⟩
theorem join_bad {l : Bytes} (g : ¬ good l 3) : joinOf l = none := by
  by_cases e : (splitB 0x20 l).length = 3
  · obtain ⟨x, y, c, es⟩ := three e
    have ej := joinOf_three es
    have h : ((splitB 0x20 l).map decimalOf).any Option.isNone ≠ false := fun h => g ⟨e, h⟩
    rw [es] at h
    rw [ej]
    revert h
    cases hx : decimalOf x <;> cases hy : decimalOf y <;> cases hc : decimalOf c <;> intro h <;> first | rfl | exact (h (by simp [hx, hy, hc])).elim
  · exact joinOf_other e
/-- the least kind of fault, 0 for none -/
def kindJ (js : List Join) (j : Join) : Nat := if SORTS ≤ j.right ∨ SORTS ≤ j.left ∨ COST < j.cost then 2 else if js.any (fun q => q.right == j.right && q.left == j.left) = true then 3 else 0
theorem goJ_bad {i : Nat} {l : Bytes} {ls : List Bytes} {js : List Join} (g : ¬ good l 3) : goJoins i (l :: ls) js = .error (i, 1) := by
  rw [goJoins, join_bad g]
theorem goJ_step {i : Nat} {l : Bytes} {ls : List Bytes} {js : List Join} {j : Join} (e : joinOf l = some j) : goJoins i (l :: ls) js = if SORTS ≤ j.right ∨ SORTS ≤ j.left ∨ COST < j.cost then .error (i, 2) else if js.any (fun q => q.right == j.right && q.left == j.left) = true then .error (i, 3) else goJoins (i + 1) ls (js ++ [j]) := by
  rw [goJoins, e]
def spJoinsOf (K : PySem.W.Frag) (C CF : Addr) : Sp := fun vs H Q E => ∃ (a : Addr) (b : Bytes), vs = [.ref a] ∧ SqL K H a (bI b) ∧ b.length ≤ 100000 ∧
  (∀ i k, readJoins b = .error (i, k) → ∀ H' d, Same H H' → H d = none → H' d = some (.xd (faultFs i k)) → E (.ref CF) (some d) H') ∧
  (∀ n J, readJoins b = .ok (n, J) → ∀ H' p js, Same H H' → JoinsAt C H' p n js → js.Perm J → ApartJ js → Q (.ref p) H')
theorem scJoinsOf : FnScope ["t", "lines", "behind", "alone", "told", "number", "line", "right", "left", "cost"] ["t"] (defScope sJoinsOf) := ⟨rfl, rfl, rfl, by decide +kernel, rfl, by decide +kernel, by decide +kernel⟩
theorem seq_dput {td ty tv : TE} {u : TS} {D : Ends} {σ : L2.St} {H : Hp} (q : tv σ H fun v H1 => td σ H1 fun x H2 => ty σ H2 fun y H3 => ∃ a H4, x = .ref a ∧ DPut H3 a y v H4 ∧ u D σ H4) : tSeq (sDPut td ty tv) u D σ H := q
theorem din_of {ti td : TE} {σ : L2.St} {H : Hp} {Q : VK} (q : ti σ H fun y H1 => td σ H1 fun x H2 => ∃ a o, x = .ref a ∧ DGet H2 a y o ∧ Q (.bl o.isSome) H2) : tDIn ti td σ H Q := q
theorem ok_joinsOf {C CF fF fI : Addr} {f : Addr} {fd fdF fdI : FuncData} (F : Fun K "joins_of" "joins_of" sJoinsOf f fd) (G : Glob mg) (T : JoinsC K mg C) (TF : FaultyC K mg CF fF)
    (FF : FnOk P w K mg base CX0 1 fF fdF ["self", "line", "kind"] (spFaultyInit CF)) (bF : Binds K fdF ["self", "line", "kind"] [])
    (M : Mk K C fI) (FI : FnOk P w K mg base CX0 1 fI fdI ["self", "alone", "costs"] (spJoinsInit C)) (b0 : Binds K fdI ["self", "alone", "costs"] [])
    (h1 : Has P w K mg base CX0 2 "lines_of" ["t"] (spLinesOf K)) (h2 : Has P w K mg base (L2.CX P w) 4 "alone_of" ["line"] (spAloneOf K CF)) (h3 : Has P w K mg base (L2.CX P w) 3 "numbers_of" ["line", "number", "many"] (spNumbersOf K CF))
    (h4 : Has P w K mg base CX0 1 "without_free" ["told"] spWithoutFree) : FnOk P w K mg base (L2.CX P w) 5 f fd ["t"] (spJoinsOf K C CF) := by
  obtain ⟨f1, fd1, G1, m1, k1, b1⟩ := h1
  obtain ⟨f2, fd2, G2, m2, k2, b2⟩ := h2
  obtain ⟨f3, fd3, G3, m3, k3, b3⟩ := h3
  obtain ⟨f4, fd4, G4, m4, k4, b4⟩ := h4
  refine F.okX scJoinsOf (fun vs H Q E h => ?_) (fun cdv A outer s H vs Q E hr h => ?_)
  · obtain ⟨a, b, rfl, _⟩ := h
    rfl
  · refine ⟨_, pss_cons (ps_asg (pe_call G1 (hr.mono (by decide)) rfl m1 k1 b1 .nil pass0 (pa_cons (pv 0) pa_nil)) (pg_tup rfl (pgs_cons (pg_name (i := 1) scJoinsOf.nd rfl (Or.inl rfl)) (pgs_cons (pg_name (i := 2) scJoinsOf.nd rfl (Or.inl rfl)) pgs_nil))))
      (pss_cons (ps_if (pt_not (pt_truth (pv 1) (by intro _; rfl))) (pss_one (ps_raise rfl (takes_of rfl rfl rfl rfl) (SayL.pmk_err TF.err TF.iC TF.tI FF (hr.mono (by decide)) bF pass0 rfl TF.gC (pa_cons pe_int (pa_cons pe_int pa_nil))))) pss_nil)
      (pss_cons (ps_set (i := 3) scJoinsOf.nd rfl (Or.inl rfl) (pe_call (E := E) G2 hr rfl m2 k2 b2 .nil (passes_call (takes_of rfl rfl rfl rfl) (fun _ _ _ _ h => h)) (pa_cons (pe_ix ix_list (pv 1) pe_int (fun _ _ => rfl)) pa_nil)))
      (pss_cons (ps_set (i := 4) scJoinsOf.nd rfl (Or.inl rfl) pe_dnewT)
      (pss_cons (ps_for PassesOwn.leaving rfl (SayN.pi_enumS rfl G.enumerate (pa_cons (pe_slice sl_list (pv 1) (po_some pe_int) po_none) pa_nil) (pk_cons pe_int pk_nil)) (pg_tup rfl (pgs_cons (pg_name (i := 5) scJoinsOf.nd rfl (Or.inl rfl)) (pgs_cons (pg_name (i := 6) scJoinsOf.nd rfl (Or.inl rfl)) pgs_nil)))
        (pss_cons (ps_asg (pe_call (E := E) G3 (hr.mono (by decide)) rfl m3 k3 b3 .nil (passes_call (takes_of rfl rfl rfl rfl) (fun _ _ _ _ h => h)) (pa_cons (pv 6) (pa_cons (pv 5) (pa_cons pe_int pa_nil))))
            (pg_unl rfl (pgs_cons (pg_name (i := 7) scJoinsOf.nd rfl (Or.inl rfl)) (pgs_cons (pg_name (i := 8) scJoinsOf.nd rfl (Or.inl rfl)) (pgs_cons (pg_name (i := 9) scJoinsOf.nd rfl (Or.inl rfl)) pgs_nil)))))
        (pss_cons (ps_if (PW.pt (pw_or (pt_cmpR op_gt (pe_callB (call_max2 rfl) rfl G.max boot_max (pa_cons (pv 7) (pa_cons (pv 8) pa_nil))) (pe_num G.sort rfl) (nomark _)) (pw_or1 (pt_cmpR op_gt (pv 9) (pe_num G.cost rfl) (nomark _)))))
            (pss_one (ps_raise rfl (takes_of rfl rfl rfl rfl) (SayL.pmk_err TF.err TF.iC TF.tI FF (hr.mono (by decide)) bF pass0 rfl TF.gC (pa_cons (pv 5) (pa_cons pe_int pa_nil))))) pss_nil)
        (pss_cons (ps_if (pt_cmp (pc_din (hu_of hr) (pe_tup (pa_cons (pv 7) (pa_cons (pv 8) pa_nil))) (pv 4)))
            (pss_one (ps_raise rfl (takes_of rfl rfl rfl rfl) (SayL.pmk_err TF.err TF.iC TF.tI FF (hr.mono (by decide)) bF pass0 rfl TF.gC (pa_cons (pv 5) (pa_cons pe_int pa_nil))))) pss_nil)
        (pss_one (ps_dput (hu_of hr) (pv 4) (pe_tup (pa_cons (pv 7) (pa_cons (pv 8) pa_nil))) (pv 9) rfl))))))
      (pss_cons (ps_if (pt_truth (pv 2) (by intro _; rfl)) (pss_one (ps_raise rfl (takes_of rfl rfl rfl rfl) (SayL.pmk_err TF.err TF.iC TF.tI FF (hr.mono (by decide)) bF pass0 rfl TF.gC (pa_cons (pe_callB call_len_seq rfl G.len PySem.boot_len (pa_cons (pv 1) pa_nil)) (pa_cons pe_int pa_nil))))) pss_nil)
      (pss_one (ps_ret (pe_make M FI (hr.mono (by decide)) rfl T.gC b0 .nil pass0 (pa_cons (pv 3) (pa_cons (pe_call G4 (hr.mono (by decide)) rfl m4 k4 b4 .nil pass0 (pa_cons (pv 4) pa_nil)) pa_nil)))))))))), ?_⟩
    obtain ⟨a, b, rfl, hS, hlen, ke, kq⟩ := h
    obtain ⟨ls, z, hsp⟩ := splitB_last 0x0A b
    have eread := joins_text hsp
    refine seq_asgG (call_of (arg1 (ie_v rfl) ⟨a, b, ls, z, rfl, hS, hlen, hsp, fun H1 p l q qs sm hp hl rows hq nl fresh => ?_⟩))
    refine ⟨p, _, rfl, SqT.of hp, rfl, _, _, rfl, gname ⟨_, _, rfl, gname ⟨rfl, ?_⟩⟩⟩
    have hls : ∀ li ∈ ls, li.length ≤ 100000 := fun li h => Nat.le_trans (splitB_short 0x0A b li (by rw [hsp]; exact List.mem_append_left _ h)) hlen
    have elen := Paired.length rows
    have hlsz : ls.length ≤ 100001 := by
      have := splitB_size 0x0A b
      rw [hsp, List.length_append] at this
      simp only [List.length_cons, List.length_nil] at this
      omega
    show tSeq (tIfS _ _ _) _ _ _ _
    refine seq_if (b := !(!(qs.map V.ref).isEmpty)) (is_not (b := !(qs.map V.ref).isEmpty) fun Q' q' => ⟨_, rfl, _, Or.inl ⟨_, .inl (.inl hl), rfl⟩, q'⟩) (fun e => ?_) (fun e => ?_)
    · refine raise_of ie_c ie_c (fun H' d s n hd => ke 0 1 ?_ H' d (sm.trans s) (not_there sm n) hd)
      have : ls = [] := by
        cases rows with
        | nil => rfl
        | cons _ _ => cases e
      rw [eread, this]
      rfl
    · cases rows with
      | nil => cases e
      | @cons q0 l0 qs ls hq0 rows =>
      have elen1 := Paired.length rows
      refine seq_next (seq_asg (call_of (arg1 (ie_ixL (i := 0) (ie_v rfl) ie_c (.inl (.inl hl)) rfl) ⟨q0, l0, rfl, .inl (.inl hq0), hls l0 List.mem_cons_self, fun ed H' d s n hd => ?_, fun n0 ed => ⟨fun hb H' d s n hd => ?_, fun hb H2 sm2 => ?_⟩⟩)))
      · refine ke 0 1 ?_ H' d (sm.trans s) (not_there sm n) hd
        rw [eread]
        unfold textJ
        simp only
        rw [ed]
      · refine ke 0 2 ?_ H' d (sm.trans s) (not_there sm n) hd
        rw [eread]
        unfold textJ
        simp only
        rw [ed]
        simp only
        rw [if_pos hb]
      · have etext : textJ (l0 :: ls) z = match goJoins 1 ls [] with
            | .error e => .error e
            | .ok js => if z = [] then .ok (n0, (sortJ js).filter fun j => j.cost != 0) else .error (1 + ls.length, 1) := by
          unfold textJ
          simp only
          rw [ed]
          simp only
          rw [if_neg hb]
          all_goals (cases goJoins 1 ls [] <;> rfl)
        rw [etext] at eread
        refine seq_asg fun pd npd => ?_
        have hl2 : H2 l = some (.lst ((q0 :: qs).map V.ref)) := sm2 _ _ hl
        have s3 : Same H2 (upd H2 pd (.dT [])) := same_upd npd
        have ecut : cutV ((q0 :: qs).map V.ref) (some 1) none = qs.map V.ref := cut_all (lo := 1) _
        refine ⟨_, rfl, 1, rfl, l, _, rfl, .inl (.inl (s3 _ _ hl2)), fun u nu => ?_⟩
        rw [ecut]
        have s4 : Same H2 (upd (upd H2 pd (.dT [])) u (.lst (qs.map V.ref))) := s3.trans (same_upd nu)
        have epu : pd ≠ u := ne_of_none upd_same nu
        have nu2 : H2 u = none := by rw [upd_ne (Ne.symm epu)] at nu; exact nu
        refine ⟨u, qs.map V.ref, 1, rfl, rfl, .inl (.inl upd_same), ⟨by decide, by decide⟩, ?_⟩
        refine SayN.for_enumS (xs := qs.map V.ref) (fun i σ Hc => ∃ (v5 v6 v7 v8 v9 : Option V) (js : List Join), σ = [some (.ref a), some (.ref l), some (.ref q), some (.int (n0 : Nat)), some (.ref pd), v5, v6, v7, v8, v9] ∧ Same H2 Hc ∧
          Hc u = some (.lst (qs.map V.ref)) ∧ Hc pd = some (.dT (kvJ js)) ∧ js.length ≤ i ∧ goJoins 1 ls [] = goJoins (i + 1) (ls.drop i) js ∧ ApartJ js)
          ⟨none, none, none, none, none, [], rfl, s4, upd_same, (upd_ne epu).trans upd_same, Nat.le_refl _, rfl, .nil⟩
          (fun i σ Hc _ ⟨_, _, _, _, _, _, _, _, hu, _⟩ => .inl (.inl hu)) ?_ ?_
        · rintro i x σ Hc Tt hx ⟨v5, v6, v7, v8, v9, js, rfl, smc, huc, hpd, hjl, hgo, hap⟩ nT
          rw [List.getElem?_map] at hx
          cases ei : qs[i]? with
          | none => rw [ei] at hx; cases hx
          | some qi =>
          rw [ei] at hx
          cases hx
          obtain ⟨li, eli, hqi⟩ := paired_get rows ei
          have hil : i < ls.length := (List.getElem?_eq_some_iff.mp eli).1
          have edrop : ls.drop i = li :: ls.drop (i + 1) := by
            obtain ⟨lt, rfl⟩ := List.getElem?_eq_some_iff.mp eli
            exact List.drop_eq_getElem_cons lt
          rw [edrop] at hgo
          have en : (1 : Int) + (i : Nat) = ((i + 1 : Nat) : Int) := by omega
          rw [en]
          have sT : Same Hc (upd Hc Tt (.tup [.int ((i + 1 : Nat) : Int), .ref qi])) := same_upd nT
          refine ⟨Tt, _, rfl, SqT.of upd_same, rfl, _, _, rfl, gname ⟨_, _, rfl, gname ⟨rfl, ?_⟩⟩⟩
          have fault : ∀ k : Nat, goJoins 1 ls [] = .error (i + 1, k) → ∀ H' d, Same Hc H' → H d = none → H' d = some (.xd (faultFs (i + 1) k)) → E (.ref CF) (some d) H' := fun k e H' d s n hd => by
            refine ke (i + 1) k ?_ H' d (sm.trans (sm2.trans (smc.trans s))) n hd
            rw [eread, e]
          have sHc : Same H Hc := sm.trans (sm2.trans smc)
          refine seq_asgG (call_of (arg_is (ie_v rfl) (arg_is (ie_v rfl) (arg1 (ie_c (v := .int ((3 : Nat) : Int))) ⟨qi, li, i + 1, 3, rfl, .inl (.inl (sT _ _ (smc _ _ (sm2 _ _ hqi)))), hls li (List.mem_cons_of_mem _ (List.mem_of_getElem? eli)), fun g H' d s n hd => ?_, fun g H4 pn sm4 hpn => ?_⟩))))
          · exact fault 1 (by rw [hgo, goJ_bad g]) H' d (sT.trans s) (not_there (sHc.trans sT) n) hd
          · obtain ⟨j, ej, es⟩ := join_good g
            rw [es] at hpn
            have hpn : H4 pn = some (.lst [.int (cap j.right : Nat), .int (cap j.left : Nat), .int (cap j.cost : Nat)]) := hpn
            rw [goJ_step ej] at hgo
            have sc4 : Same Hc H4 := sT.trans sm4
            refine ⟨pn, _, rfl, .inl (.inl hpn), rfl, _, _, rfl, gname ⟨_, _, rfl, gname ⟨_, _, rfl, gname ⟨rfl, ?_⟩⟩⟩⟩
            show tSeq (tIfS _ _ _) _ _ _ _
            have ebad : (decide (255 < max (cap j.right) (cap j.left)) || decide (65535 < cap j.cost)) = decide (SORTS ≤ j.right ∨ SORTS ≤ j.left ∨ COST < j.cost) := by
              rw [Bool.eq_iff_iff]
              unfold SORTS COST cap TOP
              simp only [Bool.or_eq_true, decide_eq_true_eq]
              omega
            refine seq_if (b := decide (255 < max (cap j.right) (cap j.left)) || decide (65535 < cap j.cost)) (is_or (is_test (ie_gtN (y := 255) (ie_max2 (ie_v rfl) (ie_v rfl)) ie_c)) fun _ => is_test (ie_gtN (y := 65535) (ie_v rfl) ie_c)) (fun e => ?_) (fun e => ?_)
            · rw [ebad] at e
              rw [if_pos (of_decide_eq_true e)] at hgo
              exact raise_of (ie_v rfl) ie_c (fun H' d s n hd => fault 2 hgo H' d (sc4.trans s) (not_there (sHc.trans sc4) n) hd)
            · rw [ebad] at e
              have e := of_decide_eq_false e
              rw [if_neg e] at hgo
              have er : cap j.right = j.right := by unfold SORTS COST at e; unfold cap TOP; omega
              have el : cap j.left = j.left := by unfold SORTS COST at e; unfold cap TOP; omega
              have ec : cap j.cost = j.cost := by unfold SORTS COST at e; unfold cap TOP; omega
              rw [er, el, ec]
              have hpd4 : H4 pd = some (.dT (kvJ js)) := sc4 _ _ hpd
              refine seq_next (seq_ifq (tB_of (din_of (tup2_of (ie_v rfl) (ie_v rfl) fun p5 np5 => ⟨_, rfl, pd, _, rfl, DGet.t (k := keyJ j) ((upd_ne (ne_of_none hpd4 np5)).trans hpd4) upd_same, _, rfl, ?_⟩))))
              rw [kvJ_some]
              have s45 : Same H4 (upd H4 p5 (.tup [.int ((j.right : Nat) : Int), .int ((j.left : Nat) : Int)])) := same_upd np5
              have sc5 := sc4.trans s45
              generalize upd H4 p5 (.tup [.int ((j.right : Nat) : Int), .int ((j.left : Nat) : Int)]) = H5 at s45 sc5
              refine if_bool (fun e3 => ?_) fun e3 => ?_
              · rw [if_pos e3] at hgo
                exact raise_of (ie_v rfl) ie_c (fun H' d s n hd => fault 3 hgo H' d (sc5.trans s) (not_there (sHc.trans sc5) n) hd)
              · rw [if_neg (by rw [e3]; exact Bool.false_ne_true)] at hgo
                have hpd5 : H5 pd = some (.dT (kvJ js)) := sc5 _ _ hpd
                refine seq_next ⟨_, rfl, _, rfl, tup2_of (ie_v rfl) (ie_v rfl) fun p6 np6 => ⟨pd, _, rfl, DPut.t (k := keyJ j) ((upd_ne (ne_of_none hpd5 np6)).trans hpd5) upd_same ?_, ?_⟩⟩
                · unfold kvJ
                  rw [List.length_map]
                  exact big (by simp only [List.length_cons] at hlsz; omega)
                · rw [kvJ_put e3]
                  have s56 : Same H5 (upd H5 p6 (.tup [.int ((j.right : Nat) : Int), .int ((j.left : Nat) : Int)])) := same_upd np6
                  have sc6 := sc5.trans s56
                  refine ⟨_, _, _, _, _, js ++ [j], rfl, same_mine (smc.trans sc6) npd, (upd_ne (Ne.symm epu)).trans (sc6 _ _ huc), upd_same, ?_, hgo, apartJ_snoc hap e3⟩
                  rw [List.length_append]
                  simp
                  omega
        · rintro σ Hc ⟨v5, v6, v7, v8, v9, js, rfl, smc, huc, hpd, hjl, hgo, hap⟩
          rw [List.length_map, elen1, List.drop_length] at hgo
          have hok : goJoins 1 ls [] = .ok js := hgo
          rw [hok] at eread
          simp only at eread
          have sH : Same H Hc := sm.trans (sm2.trans smc)
          dsimp only
          refine seq_if (b := !(bI z).isEmpty) (fun Q' q' => ⟨_, rfl, _, Or.inl ⟨_, .inl (.inl (smc _ _ (sm2 _ _ hq))), rfl⟩, q'⟩) (fun e => ?_) (fun e => ?_)
          · have : z ≠ [] := fun zz => by rw [zz] at e; cases e
            rw [if_neg this] at eread
            refine raise_of (ie_cast (v' := .int ((1 + ls.length : Nat) : Int)) (ie_len (ie_v rfl) (.inl (.inl (smc _ _ hl2)))) (by rw [List.length_map, List.length_cons, elen1]; congr 1; omega)) ie_c (fun H' d s n hd => ke (1 + ls.length) 1 eread H' d (sH.trans s) (not_there sH n) hd)
          · have ez : z = [] := by
              cases z with
              | nil => rfl
              | cons c r => cases e
            rw [if_pos ez] at eread
            refine seq_next (ret_of (make_of (arg_is (ie_v rfl) ?_)))
            refine call_of (arg1 (ie_v rfl) ⟨pd, js, rfl, hpd, hap, ?_, fun H5 pc sm5 hpc => ?_⟩)
            · simp only [List.length_map] at hjl
              simp only [List.length_cons] at hlsz
              omega
            · refine joins_make (n := n0) hpc fun H' x s nx h => kq n0 _ eread H' x _ (sH.trans (sm5.trans s)) h ?_ ?_
              · exact ((sortJ_perm js).filter _).symm
              · exact hap.sublist List.filter_sublist
end Say
set_option Elab.async false
set_option linter.all false
set_option maxRecDepth 100000
set_option maxHeartbeats 1000000
namespace Say
open PySem PySem.Spec PyProof.Rows L2
open SyBase SyLex SyWays
open LamX (Tabs ExtN TabB TabS)
variable {P : Program} {w : World} {K : PySem.W.Frag} {mg : Str → Option Value} {base : Heap}
structure KeeperC (K : PySem.W.Frag) (mg : Str → Option Value) (C : Addr) : Prop where
  gC : mg "Keeper" = some (.ref C)
  cl : Cls K C
  n1 : NoAttr K C "lexicon"
  n2 : NoAttr K C "joins"
/-- all but the tables and the thing at k stay -/
def ExtBut (k : Addr) (H H' : Hp) : Prop := ∀ b o, b ≠ k → H b = some o → (∀ ps, o ≠ .tbl ps) → H' b = some o
theorem ExtN.but {k : Addr} {H H' : Hp} (h : ExtN H H') : ExtBut k H H' := fun b o _ e n => h b o e n
theorem ExtBut.upd {k : Addr} {H H' : Hp} {o : HO} (h : ExtBut k H H') : ExtBut k H (upd H' k o) := fun b u hb e n => by
  rw [upd_ne hb]
  exact h b u hb e n
theorem JoinsAt.ext {C a : Addr} {H H' : Hp} {n : Nat} {js : List Join} (h : JoinsAt C H a n js) (s : ExtN H H') : JoinsAt C H' a n js := by
  obtain ⟨dx, d, h1, h2⟩ := h
  exact ⟨dx, d, s _ _ h1 (fun ps z => by cases z), s _ _ h2 (fun ps z => by cases z)⟩
/-- the keeper at k, with its lexicon and its joins -/
def KeeperAt (C CW CJ : Addr) (H : Hp) (k : Addr) (g : Weights) : Prop := ∃ (dx l j : Addr) (as : List Addr) (js : List Join), H k = some (.ins C dx [("lexicon", .ref l), ("joins", .ref j)]) ∧ k ≠ l ∧ H l = some (.lst (as.map V.ref)) ∧ WordsAt CW H as g.words ∧
  JoinsAt CJ H j g.alone js ∧ js.Perm g.joins ∧ ApartJ js
theorem ins_ne {H : Hp} {a b C C' dx dx' : Addr} {fs fs' : List (Str × V)} (h1 : H a = some (.ins C dx fs)) (h2 : H b = some (.ins C' dx' fs')) (n : fs ≠ fs') : a ≠ b := fun z => by
  rw [z, h2] at h1
  cases h1
  exact n rfl
abbrev joinFs (m : Nat) (d : Addr) : List (Str × V) := [("alone", .int (m : Nat)), ("costs", .ref d)]
/-- things that are read off a heap stay where the keeper itself is changed -/
theorem WordAt.but {C a k Ck dk : Addr} {fk : List (Str × V)} {H : Hp} {o : HO} {wd : SyLex.Word} (h : WordAt C H a wd) (hk : H k = some (.ins Ck dk fk)) (n : ∀ r t, fk ≠ wordFs r t wd.left wd.right wd.cost) : WordAt C (upd H k o) a wd := by
  obtain ⟨dx, r, t, h1, h2, h3⟩ := h
  refine ⟨dx, r, t, ?_, ?_, ?_⟩
  · rw [upd_ne (ins_ne h1 hk (fun z => n r t z.symm))]; exact h1
  · rw [upd_ne (fun z => by rw [z, hk] at h2; cases h2)]; exact h2
  · rw [upd_ne (fun z => by rw [z, hk] at h3; cases h3)]; exact h3
theorem JoinsAt.but {C a k Ck dk : Addr} {fk : List (Str × V)} {H : Hp} {o : HO} {m : Nat} {js : List Join} (h : JoinsAt C H a m js) (hk : H k = some (.ins Ck dk fk)) (n : ∀ d, fk ≠ joinFs m d) : JoinsAt C (upd H k o) a m js := by
  obtain ⟨dx, d, h1, h2⟩ := h
  refine ⟨dx, d, ?_, ?_⟩
  · rw [upd_ne (ins_ne h1 hk (fun z => n d z.symm))]; exact h1
  · rw [upd_ne (fun z => by rw [z, hk] at h2; cases h2)]; exact h2
abbrev keepFs (l j : Addr) : List (Str × V) := [("lexicon", .ref l), ("joins", .ref j)]
theorem keep_word {l j r t : Addr} {x y c : Nat} : keepFs l j ≠ wordFs r t x y c := by
  intro z
  have := congrArg List.length z
  cases this
theorem keep_joins {l j d : Addr} {m : Nat} : keepFs l j ≠ joinFs m d := by
  intro z
  injection z with z _
  injection z with z _
  exact absurd z (by decide)
/-- the keeper's lexicon doesn't stand at p -/
def LexNot (k : Addr) (H : Hp) (p : Addr) : Prop := ∀ C dx l j, H k = some (.ins C dx (keepFs l j)) → l ≠ p
/-- a lexicon that is set anew is a new list -/
def LexKeeps (k : Addr) (H H' : Hp) : Prop := ∀ p o, H p = some o → (∀ ps, o ≠ .tbl ps) → LexNot k H p → LexNot k H' p
theorem lex_set {k C dx l j : Addr} {H H2 : Hp} (f : FreshN H l) : LexKeeps k H (upd H2 k (.ins C dx (keepFs l j))) := fun p o e t _ C' dx' l' j' ek => by
  rw [upd_same] at ek
  have : l = l' := by
    injection ek with ek
    injection ek with _ _ ek
    injection ek with ek _
    injection ek with _ ek
    injection ek
  rw [← this]
  exact fun z => f p o e t z.symm
theorem lex_same {k : Addr} {H H' : Hp} (e : H' k = H k) : LexKeeps k H H' := fun p o _ _ n C dx l j ek => n C dx l j (by rw [← e]; exact ek)
/-- begin, __init__: as new -/
def spBegin (C CW CJ : Addr) (r : V) : Sp := fun vs H Q _ => ∃ (k dx : Addr) (fs : List (Str × V)), vs = [.ref k] ∧ H k = some (.ins C dx fs) ∧ (fs = [] ∨ ∃ l j, fs = keepFs l j) ∧ ∀ H', ExtBut k H H' → LexKeeps k H H' → (∀ b ps, H b = some (.tbl ps) → H' b = some (.tbl ps)) → KeeperAt C CW CJ H' k bare → Q r H'
theorem scBegin : FnScope ["self"] ["self"] (defScope sBegin) := ⟨rfl, rfl, rfl, by decide +kernel, rfl, by decide +kernel, by decide +kernel⟩
theorem scKeeperInit : FnScope ["self"] ["self"] (defScope sKeeperInit) := ⟨rfl, rfl, rfl, by decide +kernel, rfl, by decide +kernel, by decide +kernel⟩
theorem begin_end {C CW CJ k dx l p : Addr} {fs fs' : List (Str × V)} {H H2 : Hp} (hk : H k = some (.ins C dx fs)) (nl : H l = none) (s : Same (upd (upd H l (.lst [])) k (.ins C dx fs')) H2) (hp : JoinsAt CJ H2 p 65535 [])
    (n : ∀ d, fs' ≠ joinFs 65535 d) : KeeperAt C CW CJ (upd H2 k (.ins C dx (keepFs l p))) k bare := by
  have ekl : k ≠ l := ne_of_none hk nl
  have h2k := s k _ upd_same
  have h2l := s l _ ((upd_ne (Ne.symm ekl)).trans upd_same)
  refine ⟨dx, l, p, [], [], upd_same, ekl, ?_, .nil, hp.but h2k n, .refl _, .nil⟩
  rw [upd_ne (Ne.symm ekl)]
  exact h2l
theorem putF_lex {fs : List (Str × V)} {l : Addr} (h : fs = [] ∨ ∃ l j, fs = keepFs l j) : (∃ fs', putF "lexicon" (.ref l) fs = fs' ∧ fs'.length ≤ 2 ∧ (∀ d (m : Nat), fs' ≠ joinFs m d) ∧ ∀ p : Addr, putF "joins" (.ref p) fs' = keepFs l p) := by
  rcases h with rfl | ⟨l0, j0, rfl⟩
  · exact ⟨_, rfl, by show 1 ≤ 2; decide, fun d m z => (by have := congrArg List.length z; cases this), fun p => rfl⟩
  · exact ⟨_, rfl, by show 2 ≤ 2; decide, fun d m z => keep_joins z, fun p => rfl⟩
theorem ok_begin {C CW CJ : Addr} {f : Addr} {fd : FuncData} (F : Fun K "begin" "Keeper.begin" sBegin f fd) (T : KeeperC K mg C) (h1 : Has P w K mg base CX0 3 "new_joins" [] (spNewJoins CJ)) : FnOk P w K mg base CX0 4 f fd ["self"] (spBegin C CW CJ (.int 0)) := by
  obtain ⟨f1, fd1, G1, m1, k1, b1⟩ := h1
  refine F.ok scBegin (fun vs H Q E h => ?_) (fun cdv A outer s H vs Q E hr h => ?_)
  · obtain ⟨k, dx, fs, rfl, _⟩ := h
    rfl
  · refine ⟨_, pss_cons (ps_fld (pv 0) (pe_lst pa_nil) rfl) (pss_cons (ps_fld (pv 0) (pe_call0 G1 hr rfl m1 k1 b1 .nil pass0) rfl) (pss_one (ps_ret pe_int))), ?_⟩
    obtain ⟨k, dx, fs, rfl, hk, hfs, q⟩ := h
    refine ⟨by show 0 ≤ sizeLine; decide, fun l nl => ?_⟩
    obtain ⟨fs', ef, hf2, hn, hj⟩ := putF_lex (l := l) hfs
    have ekl : k ≠ l := ne_of_none hk nl
    refine ⟨_, rfl, k, C, dx, fs, rfl, (upd_ne ekl).trans hk, T.cl, T.n1, ?_, ?_⟩
    · rcases hfs with rfl | ⟨_, _, rfl⟩
      · decide
      · show 2 < 1000; decide
    rw [ef]
    refine ⟨rfl, fun H2 p s np hp => ⟨_, rfl, k, C, dx, fs', rfl, s k _ upd_same, T.cl, T.n2, by omega, ?_⟩⟩
    rw [hj p]
    refine q _ (fun b o hb e n => ?_) (lex_set fun b o e _ => ne_of_none e nl) (fun b ps e => ?_) (begin_end hk nl s hp (fun d => hn d 65535))
    · rw [upd_ne hb]
      exact s b o (by rw [upd_ne hb, upd_ne (ne_of_none e nl)]; exact e)
    · have hb : b ≠ k := fun z => by rw [z, hk] at e; cases e
      rw [upd_ne hb]
      exact s b _ (by rw [upd_ne hb, upd_ne (ne_of_none e nl)]; exact e)
theorem ok_keeperInit {C CW CJ : Addr} {f : Addr} {fd : FuncData} (F : Fun K "__init__" "Keeper.__init__" sKeeperInit f fd) (T : KeeperC K mg C) (h1 : Has P w K mg base CX0 3 "new_joins" [] (spNewJoins CJ)) : FnOk P w K mg base CX0 4 f fd ["self"] (spBegin C CW CJ .non) := by
  obtain ⟨f1, fd1, G1, m1, k1, b1⟩ := h1
  refine F.ok scKeeperInit (fun vs H Q E h => ?_) (fun cdv A outer s H vs Q E hr h => ?_)
  · obtain ⟨k, dx, fs, rfl, _⟩ := h
    rfl
  · refine ⟨_, pss_cons (ps_fld (pv 0) (pe_lst pa_nil) rfl) (pss_one (ps_fld (pv 0) (pe_call0 G1 hr rfl m1 k1 b1 .nil pass0) rfl)), ?_⟩
    obtain ⟨k, dx, fs, rfl, hk, hfs, q⟩ := h
    refine ⟨by show 0 ≤ sizeLine; decide, fun l nl => ?_⟩
    obtain ⟨fs', ef, hf2, hn, hj⟩ := putF_lex (l := l) hfs
    have ekl : k ≠ l := ne_of_none hk nl
    refine ⟨_, rfl, k, C, dx, fs, rfl, (upd_ne ekl).trans hk, T.cl, T.n1, ?_, ?_⟩
    · rcases hfs with rfl | ⟨_, _, rfl⟩
      · decide
      · show 2 < 1000; decide
    rw [ef]
    refine ⟨rfl, fun H2 p s np hp => ⟨_, rfl, k, C, dx, fs', rfl, s k _ upd_same, T.cl, T.n2, by omega, ?_⟩⟩
    rw [hj p]
    refine q _ (fun b o hb e n => ?_) (lex_set fun b o e _ => ne_of_none e nl) (fun b ps e => ?_) (begin_end hk nl s hp (fun d => hn d 65535))
    · rw [upd_ne hb]
      exact s b o (by rw [upd_ne hb, upd_ne (ne_of_none e nl)]; exact e)
    · have hb : b ≠ k := fun z => by rw [z, hk] at e; cases e
      rw [upd_ne hb]
      exact s b _ (by rw [upd_ne hb, upd_ne (ne_of_none e nl)]; exact e)
end Say
set_option Elab.async false
set_option linter.all false
set_option maxRecDepth 100000
set_option maxHeartbeats 1000000
namespace Say
open PySem PySem.Spec PyProof.Rows L2
open SyBase SyLex SyWays
open LamX (Tabs ExtN TabB TabS)
variable {P : Program} {w : World} {K : PySem.W.Frag} {mg : Str → Option Value} {base : Heap}
/-- an error class without anything of its own -/
structure BareC (K : PySem.W.Frag) (mg : Str → Option Value) (x : Str) (C : Addr) : Prop where
  gC : mg x = some (.ref C)
  xC : PySem.W.excIn K C [.type "Exception", .type "BaseException", .type "object"] "Exception.__new__" = true
  kC : PySem.W.keepIn K (.ref C) = true
  bC : PySem.W.subIn K (.ref C) (.type "BaseException") = some true
  tC : PySem.W.typeIn K (.ref C) = some (.type "type")
def spCheckBytes (K : PySem.W.Frag) (CT : Addr) : Sp := fun vs H Q E => ∃ (a : Addr) (xs : List V), vs = [.ref a] ∧ SqL K H a xs ∧ (65536 < xs.length → E (.ref CT) none H) ∧ (¬ 65536 < xs.length → Q .non H)
theorem scCheckBytes : FnScope ["t"] ["t"] (defScope sCheckBytes) := ⟨rfl, rfl, rfl, by decide +kernel, rfl, by decide +kernel, by decide +kernel⟩
theorem ok_checkBytes {CT : Addr} {f : Addr} {fd : FuncData} (F : Fun K "check_bytes" "check_bytes" sCheckBytes f fd) (G : Glob mg) (T : BareC K mg "WrongLength" CT) : FnOk P w K mg base (L2.CX P w) 1 f fd ["t"] (spCheckBytes K CT) := by
  refine F.okX scCheckBytes (fun vs H Q E h => ?_) (fun cdv A outer s H vs Q E hr h => ?_)
  · obtain ⟨a, xs, rfl, _⟩ := h
    rfl
  · refine ⟨_, pss_one (ps_if (pt_cmpR op_gt (pe_callB call_len_seq rfl G.len PySem.boot_len (pa_cons (pv 0) pa_nil)) (pe_num G.bytes rfl) (nomark _))
      (pss_one (ps_raise rfl (takes_of rfl rfl rfl rfl) (SayL.pmk_bare PySem.F.excBase_Exception T.xC T.gC T.kC (raises_own T.bC T.tC) rfl))) pss_nil), ?_⟩
    obtain ⟨a, xs, rfl, hS, h1, h2⟩ := h
    refine if_is (b := decide (65536 < xs.length)) (is_test (ie_gtN (y := 65536) (ie_len (ie_v rfl) hS) ie_c)) (fun e => ?_) (fun e => ?_)
    · exact h1 (of_decide_eq_true e)
    · exact h2 (of_decide_eq_false e)
theorem cb_of {r : List V → Hp → VK → Prop} {t : TA} {σ : L2.St} {H : Hp} {Q : VK} (q : t σ H fun vs H1 => r vs H1 Q) : tCB r t σ H Q := q
theorem tabs_but {T : List (Addr × Str)} {H : Hp} {k C dx : Addr} {fs : List (Str × V)} {o : HO} (t : Tabs T H) (hk : H k = some (.ins C dx fs)) : Tabs T (upd H k o) := fun p hp => by
  obtain ⟨ps, h1, h2, h3⟩ := t p hp
  refine ⟨ps, ?_, h2, fun pos cv hc => ?_⟩
  · rw [upd_ne (fun z => by rw [z, hk] at h1; cases h1)]
    exact h1
  · obtain ⟨c, e1, e2⟩ := h3 pos cv hc
    refine ⟨c, e1, ?_⟩
    rw [upd_ne (fun z => by rw [z, hk] at e2; cases e2)]
    exact e2
theorem keeper_words {C CW CJ k dx l j p : Addr} {as' : List Addr} {js : List Join} {H H2 : Hp} {g : Weights} {L : Lexicon} (hk : H k = some (.ins C dx (keepFs l j))) (hj : JoinsAt CJ H j g.alone js) (hp : js.Perm g.joins) (ha : ApartJ js)
    (eN : ExtN H H2) (h2 : H2 p = some (.lst (as'.map V.ref))) (hw : WordsAt CW H2 as' L) : KeeperAt C CW CJ (upd H2 k (.ins C dx (keepFs p j))) k { g with words := L } := by
  have h2k := eN k _ hk (fun ps z => by cases z)
  have ekp : k ≠ p := fun z => by rw [z, h2] at h2k; cases h2k
  refine ⟨dx, p, j, as', js, upd_same, ekp, ?_, ?_, (hj.ext eN).but h2k (fun d => keep_joins), hp, ha⟩
  · rw [upd_ne (Ne.symm ekp)]; exact h2
  · exact paired_mono (fun _ _ h => h.but h2k fun r t => keep_word) hw
theorem keeper_joins {C CW CJ k dx l j p n : Addr} {as : List Addr} {js : List Join} {H H2 : Hp} {g : Weights} {J : List Join} (hk : H k = some (.ins C dx (keepFs l j))) (hl : H l = some (.lst (as.map V.ref))) (ekl : k ≠ l) (hw : WordsAt CW H as g.words)
    (eN : ExtN H H2) (h2 : JoinsAt CJ H2 p n js) (hp : js.Perm J) (ha : ApartJ js) : KeeperAt C CW CJ (upd H2 k (.ins C dx (keepFs l p))) k { g with alone := n, joins := J } := by
  have h2k := eN k _ hk (fun ps z => by cases z)
  refine ⟨dx, l, p, as, js, upd_same, ekl, ?_, ?_, h2.but h2k (fun d => keep_joins), hp, ha⟩
  · rw [upd_ne (Ne.symm ekl)]; exact eN _ _ hl (fun ps z => by cases z)
  · exact paired_mono (fun _ _ h => (h.ext eN).but h2k fun r t => keep_word) hw
theorem lex_joins {k C dx l j j' : Addr} {H H2 : Hp} (hk : H k = some (.ins C dx (keepFs l j))) : LexKeeps k H (upd H2 k (.ins C dx (keepFs l j'))) := fun p o _ _ n C' dx' l' j2 ek => by
  rw [upd_same] at ek
  have : l = l' := by
    injection ek with ek
    injection ek with _ _ ek
    injection ek with ek _
    injection ek with _ ek
    injection ek
  rw [← this]
  exact n _ _ _ _ hk
def spTakeWords (K : PySem.W.Frag) (C CW CJ CF CT : Addr) (T : List (Addr × Str)) : Sp := fun vs H Q E => ∃ (k a : Addr) (g : Weights) (b : Bytes), vs = [.ref k, .ref a] ∧ KeeperAt C CW CJ H k g ∧ SqL K H a (bI b) ∧ b.length ≤ 100000 ∧ Tabs T H ∧
  (65536 < b.length → E (.ref CT) none H) ∧
  (¬ 65536 < b.length → (∀ i n, readWords b = .error (i, n) → ∀ H' d, Same H H' → H d = none → H' d = some (.xd (faultFs i n)) → E (.ref CF) (some d) H') ∧
    ∀ L, readWords b = .ok L → ∀ H', ExtBut k H H' → LexKeeps k H H' → Tabs T H' → KeeperAt C CW CJ H' k { g with words := L } → Q (.int (L.length : Nat)) H')
theorem scTakeWords : FnScope ["self", "t"] ["self", "t"] (defScope sTakeWords) := ⟨rfl, rfl, rfl, by decide +kernel, rfl, by decide +kernel, by decide +kernel⟩
theorem ok_takeWords {C CW CJ CF CT : Addr} {T : List (Addr × Str)} {f : Addr} {fd : FuncData} (F : Fun K "take_words" "Keeper.take_words" sTakeWords f fd) (G : Glob mg) (TK : KeeperC K mg C)
    (h1 : Has P w K mg base (L2.CX P w) 1 "check_bytes" ["t"] (spCheckBytes K CT)) (h2 : Has P w K mg base (L2.CX P w) 6 "words_of" ["t"] (spWordsOf P w K CW CF T)) :
    FnOk P w K mg base (L2.CX P w) 7 f fd ["self", "t"] (spTakeWords K C CW CJ CF CT T) := by
  obtain ⟨f1, fd1, G1, m1, k1, b1⟩ := h1
  obtain ⟨f2, fd2, G2, m2, k2, b2⟩ := h2
  refine F.okX scTakeWords (fun vs H Q E h => ?_) (fun cdv A outer s H vs Q E hr h => ?_)
  · obtain ⟨k, a, g, b, rfl, _⟩ := h
    rfl
  · refine ⟨_, pss_cons (ps_expr (pe_call (E := E) G1 (hr.mono (by decide)) rfl m1 k1 b1 .nil (passes_call (takes_of rfl rfl rfl rfl) (fun _ _ _ _ h => h)) (pa_cons (pv 1) pa_nil)))
      (pss_cons (ps_fld (pv 0) (pe_call (E := E) G2 hr rfl m2 k2 b2 .nil (passes_call (takes_of rfl rfl rfl rfl) (fun _ _ _ _ h => h)) (pa_cons (pv 1) pa_nil)) rfl)
      (pss_one (ps_ret (pe_callB call_len_seq rfl G.len PySem.boot_len (pa_cons (pe_fld (pv 0) rfl) pa_nil))))), ?_⟩
    obtain ⟨k, a, g, b, rfl, hK, hS, hlen, hT, hlong, hok⟩ := h
    obtain ⟨dx, l, j, as, js, hk, ekl, hl, hw, hj, hp, ha⟩ := hK
    refine ⟨_, rfl, a, bI b, rfl, hS, by rw [List.length_map]; exact hlong, fun hlo => ?_⟩
    rw [List.length_map] at hlo
    obtain ⟨ke, kq⟩ := hok hlo
    refine ⟨_, rfl, a, b, rfl, hS, hlen, hT, ke, fun L eL H2 p as' fr eN T2 h2 hw2 => ?_⟩
    have h2k := eN k _ hk (fun ps z => by cases z)
    refine ⟨_, rfl, k, C, dx, _, rfl, h2k, TK.cl, TK.n1, by show 2 < 1000; decide, ?_⟩
    have hK2 := keeper_words (C := C) (g := g) hk hj hp ha eN h2 hw2
    have ekp : k ≠ p := fun z => by rw [z, h2] at h2k; cases h2k
    have h3 : upd H2 k (.ins C dx (keepFs p j)) p = some (.lst (as'.map V.ref)) := (upd_ne (Ne.symm ekp)).trans h2
    refine ret_is (ie_cast (ie_len (ie_fld (ie_v rfl) upd_same TK.cl TK.n1 rfl) (.inl (.inl h3))) (v' := .int (L.length : Nat)) (by rw [List.length_map, Paired.length hw2])) ?_
    exact kq L eL _ (ExtN.but eN).upd (lex_set fr) (tabs_but T2 h2k) hK2
def spTakeJoins (K : PySem.W.Frag) (C CW CJ CF CT : Addr) (T : List (Addr × Str)) : Sp := fun vs H Q E => ∃ (k a : Addr) (g : Weights) (b : Bytes), vs = [.ref k, .ref a] ∧ KeeperAt C CW CJ H k g ∧ SqL K H a (bI b) ∧ b.length ≤ 100000 ∧ Tabs T H ∧
  (65536 < b.length → E (.ref CT) none H) ∧
  (¬ 65536 < b.length → (∀ i n, readJoins b = .error (i, n) → ∀ H' d, Same H H' → H d = none → H' d = some (.xd (faultFs i n)) → E (.ref CF) (some d) H') ∧
    ∀ n J, readJoins b = .ok (n, J) → ∀ H', ExtBut k H H' → LexKeeps k H H' → Tabs T H' → KeeperAt C CW CJ H' k { g with alone := n, joins := J } → Q (.int (J.length : Nat)) H')
theorem scTakeJoins : FnScope ["self", "t"] ["self", "t"] (defScope sTakeJoins) := ⟨rfl, rfl, rfl, by decide +kernel, rfl, by decide +kernel, by decide +kernel⟩
theorem ok_takeJoins {C CW CJ CF CT : Addr} {T : List (Addr × Str)} {f : Addr} {fd : FuncData} (F : Fun K "take_joins" "Keeper.take_joins" sTakeJoins f fd) (G : Glob mg) (TK : KeeperC K mg C) (TJ : JoinsC K mg CJ)
    (h1 : Has P w K mg base (L2.CX P w) 1 "check_bytes" ["t"] (spCheckBytes K CT)) (h2 : Has P w K mg base (L2.CX P w) 5 "joins_of" ["t"] (spJoinsOf K CJ CF)) :
    FnOk P w K mg base (L2.CX P w) 6 f fd ["self", "t"] (spTakeJoins K C CW CJ CF CT T) := by
  obtain ⟨f1, fd1, G1, m1, k1, b1⟩ := h1
  obtain ⟨f2, fd2, G2, m2, k2, b2⟩ := h2
  refine F.okX scTakeJoins (fun vs H Q E h => ?_) (fun cdv A outer s H vs Q E hr h => ?_)
  · obtain ⟨k, a, g, b, rfl, _⟩ := h
    rfl
  · refine ⟨_, pss_cons (ps_expr (pe_call (E := E) G1 (hr.mono (by decide)) rfl m1 k1 b1 .nil (passes_call (takes_of rfl rfl rfl rfl) (fun _ _ _ _ h => h)) (pa_cons (pv 1) pa_nil)))
      (pss_cons (ps_fld (pv 0) (pe_call (E := E) G2 hr rfl m2 k2 b2 .nil (passes_call (takes_of rfl rfl rfl rfl) (fun _ _ _ _ h => h)) (pa_cons (pv 1) pa_nil)) rfl)
      (pss_one (ps_ret (pe_callB call_len_dT rfl G.len PySem.boot_len (pa_cons (pe_fld (pe_fld (pv 0) rfl) rfl) pa_nil))))), ?_⟩
    obtain ⟨k, a, g, b, rfl, hK, hS, hlen, hT, hlong, hok⟩ := h
    obtain ⟨dx, l, j, as, js, hk, ekl, hl, hw, hj, hp, ha⟩ := hK
    refine ⟨_, rfl, a, bI b, rfl, hS, by rw [List.length_map]; exact hlong, fun hlo => ?_⟩
    rw [List.length_map] at hlo
    obtain ⟨ke, kq⟩ := hok hlo
    refine ⟨_, rfl, a, b, rfl, hS, hlen, ke, fun n J eJ H2 p js' sm h2 hp2 ha2 => ?_⟩
    have eN : ExtN H H2 := ExtN.of sm
    have h2k := sm k _ hk
    refine ⟨_, rfl, k, C, dx, _, rfl, h2k, TK.cl, TK.n2, by show 2 < 1000; decide, ?_⟩
    have hK2 := keeper_joins (C := C) (CW := CW) (g := g) hk hl ekl hw eN h2 hp2 ha2
    obtain ⟨dj, dd, e1, e2⟩ := h2.but (o := .ins C dx (keepFs l p)) h2k (fun d => keep_joins)
    refine ret_of (cb_of (arg1 (ie_fld (ie_fld (ie_v rfl) upd_same TK.cl TK.n2 rfl) e1 TJ.cl TJ.n2 rfl) ⟨dd, kvJ js', rfl, e2, ?_⟩))
    have : (kvJ js').length = J.length := by unfold kvJ; rw [List.length_map, hp2.length_eq]
    rw [this]
    exact kq n J eJ _ (ExtN.but eN).upd (lex_joins hk) (tabs_but (hT.ext sm) h2k) hK2
end Say
set_option Elab.async false
set_option linter.all false
set_option maxRecDepth 100000
set_option maxHeartbeats 1000000
namespace Say
open PySem PySem.Spec PyProof.Rows L2
open SyBase SyLex SyWays
variable {P : Program} {w : World} {K : PySem.W.Frag} {mg : Str → Option Value} {base : Heap}
/-- what a join costs -/
def joinCost (js : List Join) (x y : Nat) : Nat := ((js.find? fun (j : Join) => j.right == x && j.left == y).map fun (j : Join) => j.cost).getD 0
theorem join_is (g : Weights) (x y : Nat) : g.join x y = joinCost g.joins x y := rfl
theorem apartJ_perm {a b : List Join} (h : a.Perm b) (ha : ApartJ a) : ApartJ b := h.pairwise ha fun n z => n ⟨z.1.symm, z.2.symm⟩
theorem joinCost_mem {js : List Join} {j : Join} (ha : ApartJ js) (h : j ∈ js) : joinCost js j.right j.left = j.cost := by
  induction js with
  | nil => cases h
  | cons q js ih =>
    have h2 := List.pairwise_cons.mp ha
    unfold joinCost
    rw [List.find?_cons]
    by_cases e : q.right = j.right ∧ q.left = j.left
    · have : (q.right == j.right && q.left == j.left) = true := by simp [e]
      rw [this]
      rcases List.mem_cons.mp h with rfl | h
      · rfl
      · exact (h2.1 j h e).elim
    · have : (q.right == j.right && q.left == j.left) = false := by
        rw [Bool.eq_false_iff]
        simpa using e
      rw [this]
      rcases List.mem_cons.mp h with rfl | h
      · exact (e ⟨rfl, rfl⟩).elim
      · exact ih h2.2 h
theorem joinCost_none {js : List Join} {x y : Nat} (h : ∀ j ∈ js, ¬ (j.right = x ∧ j.left = y)) : joinCost js x y = 0 := by
  unfold joinCost
  rw [List.find?_eq_none.mpr]
  · rfl
  · intro j hj
    simpa using h j hj
theorem joinCost_perm {a b : List Join} (h : a.Perm b) (ha : ApartJ a) (x y : Nat) : joinCost a x y = joinCost b x y := by
  by_cases e : ∃ j ∈ a, j.right = x ∧ j.left = y
  · obtain ⟨j, hj, rfl, rfl⟩ := e
    rw [joinCost_mem ha hj, joinCost_mem (apartJ_perm h ha) (h.mem_iff.mp hj)]
  · rw [joinCost_none fun j hj z => e ⟨j, hj, z⟩, joinCost_none fun j hj z => e ⟨j, h.mem_iff.mpr hj, z⟩]
theorem kvJ_val (js : List Join) (x y : Nat) : (valV (kvJ js) [Sum.inl ((x : Nat) : Int), Sum.inl ((y : Nat) : Int)]).getD (.int 0) = .int ((joinCost js x y : Nat) : Int) := by
  unfold valV joinCost
  induction js with
  | nil => rfl
  | cons j js ih =>
    rw [show kvJ (j :: js) = (keyJ j, V.int ((j.cost : Nat) : Int)) :: kvJ js from rfl, List.find?_cons, List.find?_cons]
    have e : decide (keyJ j = [Sum.inl ((x : Nat) : Int), Sum.inl ((y : Nat) : Int)]) = (j.right == x && j.left == y) := by
      rw [Bool.eq_iff_iff, decide_eq_true_eq]
      show keyJ j = keyJ ⟨x, y, 0⟩ ↔ _
      rw [keyJ_eq]
      simp
    simp only
    rw [e]
    cases (j.right == x && j.left == y) with
    | true => rfl
    | false => exact ih
def spBetween (CJ : Addr) : Sp := fun vs H Q _ => ∃ (j : Addr) (x y n : Nat) (js : List Join), vs = [.ref j, .int (x : Nat), .int (y : Nat)] ∧ JoinsAt CJ H j n js ∧ ∀ H', Same H H' → Q (.int (joinCost js x y : Nat)) H'
theorem scBetween : FnScope ["self", "right", "left"] ["self", "right", "left"] (defScope sBetween) := ⟨rfl, rfl, rfl, by decide +kernel, rfl, by decide +kernel, by decide +kernel⟩
theorem ok_between {CJ : Addr} {f : Addr} {fd : FuncData} (F : Fun K "between" "Joins.between" sBetween f fd) (T : JoinsC K mg CJ) : FnOk P w K mg base CX0 1 f fd ["self", "right", "left"] (spBetween CJ) := by
  refine F.ok scBetween (fun vs H Q E h => ?_) (fun cdv A outer s H vs Q E hr h => ?_)
  · obtain ⟨j, x, y, n, js, rfl, _⟩ := h
    rfl
  · refine ⟨_, pss_one (ps_ret (pe_dget2 (hu_of hr) (pe_fld (pv 0) rfl) (pe_tup (pa_cons (pv 1) (pa_cons (pv 2) pa_nil))) pe_int ⟨rfl, rfl, rfl, rfl⟩)), ?_⟩
    obtain ⟨j, x, y, n, js, rfl, ⟨dx, d, h1, h2⟩, k⟩ := h
    refine ret_of ((ie_fld (ie_v rfl) h1 T.cl T.n2 rfl) _ ⟨d, rfl, .inr ⟨_, .inl h2⟩, tup2_of (ie_v rfl) (ie_v rfl) fun p np => ⟨_, DGet.t (k := [Sum.inl ((x : Nat) : Int), Sum.inl ((y : Nat) : Int)]) ((upd_ne (ne_of_none h2 np)).trans h2) upd_same, ?_⟩⟩)
    rw [kvJ_val]
    exact k _ (same_upd np)
end Say
set_option Elab.async false
set_option linter.all false
set_option maxRecDepth 100000
set_option maxHeartbeats 1000000
/-! Pieces: the class, a sound by itself, the edge, whether a word stands at a place. -/
namespace Say
open PySem PySem.Spec PyProof.Rows L2
open SyBase SyLex SyWays SyBack
variable {P : Program} {w : World} {K : PySem.W.Frag} {mg : Str → Option Value} {base : Heap}
theorem hu64 {A : Around} {k : Nat} (hr : Room k A) : A.units + 64 < cLine := by
  have := hr.un
  omega
structure PieceC (K : PySem.W.Frag) (mg : Str → Option Value) (C : Addr) : Prop where
  gC : mg "Piece" = some (.ref C)
  cl : Cls K C
  n1 : NoAttr K C "number"
  n2 : NoAttr K C "word"
abbrev pieceFs (n : Int) (x : Addr) : List (Str × V) := [("number", .int n), ("word", .ref x)]
/-- a piece as an instance -/
def PieceAt (C CW : Addr) (H : Hp) (a : Addr) (p : Pc) : Prop := ∃ dx x, H a = some (.ins C dx (pieceFs p.num x)) ∧ WordAt CW H x p.wd
theorem PieceAt.same {C CW a : Addr} {H H' : Hp} {p : Pc} (h : PieceAt C CW H a p) (s : Same H H') : PieceAt C CW H' a p := by
  obtain ⟨dx, x, h1, h2⟩ := h
  exact ⟨dx, x, s _ _ h1, h2.same s⟩
theorem PieceAt.ext {C CW a : Addr} {H H' : Hp} {p : Pc} (h : PieceAt C CW H a p) (s : LamX.ExtN H H') : PieceAt C CW H' a p := by
  obtain ⟨dx, x, h1, h2⟩ := h
  exact ⟨dx, x, s _ _ h1 (fun ps z => by cases z), h2.ext s⟩
theorem PieceAt.keepTI {C CW a : Addr} {H H' : Hp} {p : Pc} (h : PieceAt C CW H a p) (s : KeepTI H H') : PieceAt C CW H' a p := by
  obtain ⟨dx, x, h1, h2⟩ := h
  exact ⟨dx, x, s _ _ h1 (.inr ⟨_, _, _, rfl⟩), h2.keepTI s⟩
def spPieceInit (C : Addr) : Sp := fun vs H Q _ => ∃ (x dx y : Addr) (n : Int), vs = [.ref x, .int n, .ref y] ∧ H x = some (.ins C dx []) ∧ ∀ H', H' x = some (.ins C dx (pieceFs n y)) → But x H H' → Q .non H'
theorem scPieceInit : FnScope ["self", "number", "word"] ["self", "number", "word"] (defScope sPieceInit) := ⟨rfl, rfl, rfl, by decide +kernel, rfl, by decide +kernel, by decide +kernel⟩
theorem ok_pieceInit {C f : Addr} {fd : FuncData} (F : Fun K "__init__" "Piece.__init__" sPieceInit f fd) (T : PieceC K mg C) : FnOk P w K mg base CX0 1 f fd ["self", "number", "word"] (spPieceInit C) := by
  refine F.ok scPieceInit (fun vs H Q E h => ?_) (fun cdv A outer s H vs Q E hr h => ?_)
  · obtain ⟨x, dx, y, n, rfl, _⟩ := h
    rfl
  · refine ⟨_, pss_cons (ps_fld (pv 0) (pv 1) rfl) (pss_one (ps_fld (pv 0) (pv 2) rfl)), ?_⟩
    obtain ⟨x, dx, y, n, rfl, hx, k⟩ := h
    refine ⟨_, rfl, _, rfl, x, C, dx, _, rfl, hx, T.cl, T.n1, by decide, ?_⟩
    refine ⟨_, rfl, _, rfl, x, C, dx, _, rfl, upd_same, T.cl, T.n2, by show 1 < 1000; decide, ?_⟩
    exact k _ upd_same ((But.refl x H).upd).upd
/-- an instance's making keeps what was there -/
theorem keep_made {H H' : Hp} {x dx C : Addr} (nx : H x = none) (ndx : H dx = none) (but : But x (upd (upd H dx (.own x)) x (.ins C dx [])) H') : Same H H' := fun b o e => by
  rw [but b (ne_of_none e nx), upd_ne (ne_of_none e nx), upd_ne (ne_of_none e ndx)]
  exact e
theorem neg_is {t : TE} {σ : L2.St} {H : Hp} {i : Int} (h : IsE t σ H (.int i)) : IsE (tUn (rU fun i => .int (-i)) t) σ H (.int (-i)) := fun Q q => h _ ⟨i, rfl, q⟩
/-- a word and a piece of it are made -/
theorem piece_made {C CW : Addr} {tn tr tt tl tri tc : TE} {σ : L2.St} {H : Hp} {Q : VK} {n : Int} {r t : Addr} {r' t' : Text} {lf rt c : Nat} {H1 : Hp} (hn : IsE tn σ H (.int n))
    (hw : ∀ Q : List V → Hp → Prop, (∀ H1, Same H H1 → ∀ r t, H1 r = some (.tup (tI r')) → H1 t = some (.tup (tI t')) → Q [.ref r, .ref t, .int (lf : Nat), .int (rt : Nat), .int (c : Nat)] H1) → (tCons tr (tCons tt (tCons tl (tCons tri (tCons tc tNil))))) σ H Q)
    (k : ∀ H' a, Same H H' → H a = none → PieceAt C CW H' a ⟨n, ⟨r', t', lf, rt, c⟩⟩ → Q (.ref a) H') :
    tMake C (spPieceInit C) [] E0 (tCons tn (tCons (tMake CW (spWordInit CW) [] E0 (tCons tr (tCons tt (tCons tl (tCons tri (tCons tc tNil)))))) tNil)) σ H Q := by
  refine hn _ (make_of (hw _ fun H1 s1 r t hr ht => ?_))
  intro y dy ny ndy ney
  refine ⟨y, dy, r, t, lf, rt, c, rfl, upd_same, fun H2 hy but => ⟨rfl, ?_⟩⟩
  have s2 := keep_made ny ndy but
  intro x dx nx ndx nex
  refine ⟨x, dx, y, n, rfl, upd_same, fun H3 hx but3 => ⟨rfl, ?_⟩⟩
  have s3 := keep_made nx ndx but3
  exact k H3 x ((s1.trans s2).trans s3) (not_there (s1.trans s2) nx) ⟨dx, y, hx, ⟨dy, r, t, s3 _ _ hy, s3 _ _ (s2 _ _ hr), s3 _ _ (s2 _ _ ht)⟩⟩
def spByItself (C CW : Addr) : Sp := fun vs H Q _ => ∃ c n : Nat, vs = [.int (c : Nat), .int (n : Nat)] ∧ ∀ H' a, Same H H' → H a = none → PieceAt C CW H' a (itself n c) → Q (.ref a) H'
theorem scByItself : FnScope ["sound", "alone"] ["sound", "alone"] (defScope sByItself) := ⟨rfl, rfl, rfl, by decide +kernel, rfl, by decide +kernel, by decide +kernel⟩
theorem ok_byItself {C CW fI fW : Addr} {f : Addr} {fd fdI fdW : FuncData} (F : Fun K "by_itself" "by_itself" sByItself f fd) (TP : PieceC K mg C) (TW : WordC K mg CW) (MP : Mk K C fI) (MW : Mk K CW fW)
    (FI : FnOk P w K mg base CX0 1 fI fdI ["self", "number", "word"] (spPieceInit C)) (bI0 : Binds K fdI ["self", "number", "word"] [])
    (FW : FnOk P w K mg base CX0 1 fW fdW ["self", "reading", "text", "left", "right", "cost"] (spWordInit CW)) (bW0 : Binds K fdW ["self", "reading", "text", "left", "right", "cost"] []) :
    FnOk P w K mg base CX0 3 f fd ["sound", "alone"] (spByItself C CW) := by
  refine F.ok scByItself (fun vs H Q E h => ?_) (fun cdv A outer s H vs Q E hr h => ?_)
  · obtain ⟨c, n, rfl, _⟩ := h
    rfl
  · refine ⟨_, pss_one (ps_ret (pe_make MP FI hr rfl TP.gC bI0 .nil pass0 (pa_cons (pe_un un_neg pe_int) (pa_cons (pe_make MW FW hr rfl TW.gC bW0 .nil pass0
      (pa_cons (pe_tup (pa_cons (pv 0) pa_nil)) (pa_cons (pe_tup (pa_cons (pv 0) pa_nil)) (pa_cons pe_int (pa_cons pe_int (pa_cons (pv 1) pa_nil)))))) pa_nil)))), ?_⟩
    obtain ⟨c, n, rfl, k⟩ := h
    refine ret_of (piece_made (r := 0) (t := 0) (H1 := H) (neg_is ie_c) (fun Q' q => ?_) k)
    refine ⟨_, rfl, by show 1 ≤ sizeLine; decide, fun p np => ⟨_, rfl, by show 1 ≤ sizeLine; decide, fun p2 np2 => ⟨_, rfl, ?_⟩⟩⟩
    exact q _ ((same_upd np).trans (same_upd np2)) p p2 ((upd_ne (ne_of_none upd_same np2)).trans upd_same) upd_same
def spEdge (C CW : Addr) : Sp := fun vs H Q _ => vs = [] ∧ ∀ H' a, Same H H' → H a = none → PieceAt C CW H' a edgeP → Q (.ref a) H'
theorem scEdge : FnScope [] [] (defScope sEdge) := ⟨rfl, rfl, rfl, by decide +kernel, rfl, by decide +kernel, by decide +kernel⟩
theorem ok_edge {C CW fI fW : Addr} {f : Addr} {fd fdI fdW : FuncData} (F : Fun K "edge" "edge" sEdge f fd) (TP : PieceC K mg C) (TW : WordC K mg CW) (MP : Mk K C fI) (MW : Mk K CW fW)
    (FI : FnOk P w K mg base CX0 1 fI fdI ["self", "number", "word"] (spPieceInit C)) (bI0 : Binds K fdI ["self", "number", "word"] [])
    (FW : FnOk P w K mg base CX0 1 fW fdW ["self", "reading", "text", "left", "right", "cost"] (spWordInit CW)) (bW0 : Binds K fdW ["self", "reading", "text", "left", "right", "cost"] []) :
    FnOk P w K mg base CX0 3 f fd [] (spEdge C CW) := by
  refine F.ok scEdge (fun vs H Q E h => ?_) (fun cdv A outer s H vs Q E hr h => ?_)
  · rw [h.1]
    rfl
  · refine ⟨_, pss_one (ps_ret (pe_make MP FI hr rfl TP.gC bI0 .nil pass0 (pa_cons (pe_un un_neg pe_int) (pa_cons (pe_make MW FW hr rfl TW.gC bW0 .nil pass0
      (pa_cons (pe_tup pa_nil) (pa_cons (pe_tup pa_nil) (pa_cons pe_int (pa_cons pe_int (pa_cons pe_int pa_nil)))))) pa_nil)))), ?_⟩
    obtain ⟨rfl, k⟩ := h
    refine ret_of (piece_made (r := 0) (t := 0) (H1 := H) (r' := []) (t' := []) (lf := 0) (rt := 0) (c := 0) (neg_is ie_c) (fun Q' q => ?_) k)
    refine ⟨by show 0 ≤ sizeLine; decide, fun p np => ⟨by show 0 ≤ sizeLine; decide, fun p2 np2 => ?_⟩⟩
    exact q _ ((same_upd np).trans (same_upd np2)) p p2 ((upd_ne (ne_of_none upd_same np2)).trans upd_same) upd_same
/-! ### signs compared -/
theorem dpAll_ints {H : Hp} : ∀ t : Text, DpAll K H (tI t) ((nI t).map .int)
  | [] => .nil
  | c :: t => .cons (.int _) (dpAll_ints t)
theorem dp_row {H : Hp} {a : Addr} {t : Text} (h : H a = some (.tup (tI t))) : Dp K H (.ref a) (rowD t) := .tup (.inl (.inl h)) (dpAll_ints t)
theorem canLay_ints : ∀ l : List Int, PyData.canLayAll0 (l.map .int) = true
  | [] => rfl
  | x :: l => by
    rw [List.map_cons, PyData.canLayAll0, canLay_ints l]
    rfl
theorem shaped_row (t : Text) : SeqAt.shaped (rowD t) = true := by
  unfold SeqAt.shaped
  rw [rowD_depth]
  unfold rowD
  rw [PyData.canLay0, canLay_ints]
  rfl
/-- a row's part by two places -/
theorem cut_row (t : Text) {lo hi : Nat} : cutV (tI t) (some (lo : Int)) (some (hi : Int)) = tI ((t.take hi).drop lo) := by
  rw [cut_to]
  simp [tI, List.map_drop, List.map_take]
def stands (x : SyLex.Word) (s : Text) (k : Nat) : Bool := (s.drop k).take x.text.length == x.text
def spStandsAt (CW : Addr) : Sp := fun vs H Q _ => ∃ (x a : Addr) (wd : SyLex.Word) (s : Text) (k : Nat), vs = [.ref x, .ref a, .int (k : Nat)] ∧ WordAt CW H x wd ∧ H a = some (.tup (tI s)) ∧ ∀ H', Same H H' → Q (.bl (stands wd s k)) H'
theorem scStandsAt : FnScope ["word", "signs", "place"] ["word", "signs", "place"] (defScope sStandsAt) := ⟨rfl, rfl, rfl, by decide +kernel, rfl, by decide +kernel, by decide +kernel⟩
theorem ok_standsAt {CW : Addr} {f : Addr} {fd : FuncData} (F : Fun K "stands_at" "stands_at" sStandsAt f fd) (G : Glob mg) (TW : WordC K mg CW) : FnOk P w K mg base CX0 1 f fd ["word", "signs", "place"] (spStandsAt CW) := by
  refine F.ok scStandsAt (fun vs H Q E h => ?_) (fun cdv A outer s H vs Q E hr h => ?_)
  · obtain ⟨x, a, wd, s, k, rfl, _⟩ := h
    rfl
  · refine ⟨_, pss_one (ps_ret (pe_cmpR (op_eqD (hu64 hr)) (pe_slice sl_tupA (pv 1) (po_some (pv 2)) (po_some (pe_op op_add (pv 2) (pe_callB call_len_seq rfl G.len PySem.boot_len (pa_cons (pe_fld (pv 0) rfl) pa_nil))))) (pe_fld (pv 0) rfl) (nomark _))), ?_⟩
    obtain ⟨x, a, wd, s, k, rfl, ⟨dx, r, t, hx, hr', ht⟩, ha, q⟩ := h
    have it : IsE (tCB (fun xs H Q => ∃ p ys, xs = [V.ref p] ∧ (SqL K H p ys ∨ SqT K H p ys) ∧ Q (V.int (ys.length : Nat)) H) (tCons (tFld K (tVar 0) "text") tNil)) [some (.ref x), some (.ref a), some (.int (k : Nat))] H (.int (wd.text.length : Nat)) :=
      ie_cast (ie_lenT (ie_fld (ie_v rfl) hx TW.cl TW.n2 rfl) (.inl (.inl ht))) (by rw [List.length_map])
    have e : ∀ u : Text, PyData.eqv (rowD u) (rowD wd.text) = decide (u = wd.text) := fun u => rowD_eqv u wd.text
    have cut : (s.take (k + wd.text.length)).drop k = (s.drop k).take wd.text.length := by rw [List.drop_take, Nat.add_sub_cancel_left]
    have fin : ∀ H' u, Same H H' → H' u = some (.tup (tI ((s.drop k).take wd.text.length))) → (tFld K (tVar 0) "text") [some (.ref x), some (.ref a), some (.int (k : Nat))] H' fun y H2 => ∃ d e, Dp K H2 (.ref u) d ∧ Dp K H2 y e ∧ SeqAt.shaped d = true ∧ SeqAt.shaped e = true ∧ Q (.bl (PyData.eqv d e)) H2 := fun H' u sm hu => by
      refine (ie_fld (ie_v rfl) (sm _ _ hx) TW.cl TW.n2 rfl) _ ⟨_, _, dp_row hu, dp_row (sm _ _ ht), shaped_row _, shaped_row _, ?_⟩
      rw [e]
      have : decide ((s.drop k).take wd.text.length = wd.text) = stands wd s k := by
        unfold stands
        rw [Bool.eq_iff_iff]
        simp
      rw [this]
      exact q H' sm
    refine ret_of ⟨_, rfl, part_is (ie_v rfl) (part_is (ie_addN (ie_v rfl) it) ⟨a, tI s, rfl, .inl (.inl ha), fun hw => ?_, fun _ p np => ?_⟩)⟩
    · refine fin H a (Same.refl H) ?_
      rw [← cut, ha]
      have c := cut_row s (lo := k) (hi := k + wd.text.length)
      unfold cutV at c
      rw [hw.1, hw.2] at c
      rw [← c, Nat.sub_zero, List.drop_zero, List.take_length]
    · rw [cut_row, cut]
      exact fin _ p (same_upd np) upd_same
end Say
set_option Elab.async false
set_option linter.all false
set_option maxRecDepth 100000
set_option maxHeartbeats 1000000
/-! The pieces that may stand at a place, at all places. -/
namespace Say
open PySem PySem.Spec PyProof.Rows L2
open SyBase SyLex SyWays SyBack
open LamX (Tabs ExtN TabB TabS)
variable {P : Program} {w : World} {K : PySem.W.Frag} {mg : Str → Option Value} {base : Heap}
/-- a comprehension over enumerate(xs) -/
theorem lc_enum {K : PySem.W.Frag} {a : Addr} {xs : List V} {g : TG} {tt : TT} {te : TE} {vs : List Nat} {σ : L2.St} {H1 : Hp} {D : Addr} {Qd : Hp → Prop} (Pv : Nat → Hp → Prop) (h0 : Pv 0 (upd H1 D (.lst []))) (hl : ∀ i H, i ≤ xs.length → Pv i H → SqL K H a xs)
    (hs : ∀ i x H T, xs[i]? = some x → Pv i H → H T = none → g (.ref T) (wipe σ vs) (upd H T (.tup [.int (i : Nat), x])) fun σ2 H2 => wipe σ2 vs = wipe σ vs ∧ tt σ2 H2 fun b H3 =>
      if b = true then te σ2 H3 fun y H4 => ∃ acc, H4 D = some (.lst acc) ∧ acc.length < sizeLine ∧ Pv (i + 1) (upd H4 D (.lst (acc ++ [y]))) else Pv (i + 1) H3) (hd : ∀ H, Pv xs.length H → Qd H) :
    ∃ W : Nat → Nat → Hp → Prop, (∃ m, W 0 m (upd H1 D (.lst []))) ∧ ∀ i m H, W i m H →
      ((Ite K a).stop i H ∧ Qd H) ∨ ((Ite K a).go i H ∧ ∃ Nx : Hp → Prop, (∀ H', Nx H' → ∃ m', m' < m ∧ W (i + 1) m' H') ∧ ∀ x H', (Ite K a).yld i H x H' → g x (wipe σ vs) H' fun σ2 H2 => wipe σ2 vs = wipe σ vs ∧ tt σ2 H2 fun b H3 =>
        if b = true then te σ2 H3 fun y H4 => ∃ acc, H4 D = some (.lst acc) ∧ acc.length < sizeLine ∧ Nx (upd H4 D (.lst (acc ++ [y]))) else Nx H3) := by
  refine ⟨fun i m H => m = xs.length - i ∧ i ≤ xs.length ∧ Pv i H, ⟨xs.length, by simp, Nat.zero_le _, h0⟩, ?_⟩
  rintro i m H ⟨rfl, hi, p⟩
  have q := hl i H hi p
  by_cases hlt : i < xs.length
  · refine .inr ⟨⟨xs, xs[i], q, by simp [hlt]⟩, Pv (i + 1), fun H' p' => ⟨xs.length - (i + 1), by omega, rfl, hlt, p'⟩, fun x H' y => ?_⟩
    obtain ⟨T, z, ev, hn, eH, y⟩ := y
    subst ev
    subst eH
    exact hs i z H T (y xs q) p hn
  · have e : i = xs.length := by omega
    subst e
    exact .inl ⟨⟨xs, q, Nat.le_refl _⟩, hd H p⟩
theorem ie_ixT {te ti : TE} {σ : L2.St} {H : Hp} {p : Addr} {xs : List V} {i : Nat} {v : V} (h : IsE te σ H (.ref p)) (g : IsE ti σ H (.int (i : Nat))) (hS : SqT K H p xs) (e : xs[i]? = some v) : IsE (tOp (rIxT K) te ti) σ H v :=
  fun _ q => h _ (g _ ⟨p, xs, _, v, rfl, rfl, hS, atI_nat e, q⟩)
/-- tuples and instances stay where a list of one's own is changed -/
theorem keep_own {H H' : Hp} {D : Addr} {xs : List V} {o : HO} (s : Same H H') (hD : H D = some (.lst xs)) : KeepTI H (upd H' D o) := fun b u e ti => by
  have n : b ≠ D := fun z => by
    rw [z, hD] at e
    cases e
    rcases ti with ⟨_, ti⟩ | ⟨_, _, _, ti⟩ <;> cases ti
  rw [upd_ne n]
  exact s b u e
theorem Same.keepTI {H H' : Hp} (s : Same H H') : KeepTI H H' := fun b o e _ => s b o e
theorem KeepTI.trans {H H1 H2 : Hp} (a : KeepTI H H1) (b : KeepTI H1 H2) : KeepTI H H2 := fun c o e t => b c o (a c o e t) t
/-- pieces in a list -/
def PcsAt (C CW : Addr) (H : Hp) (a : Addr) (ps : List Pc) : Prop := ∃ as : List Addr, H a = some (.lst (as.map V.ref)) ∧ Paired (fun b p => PieceAt C CW H b p) as ps
theorem PcsAt.ext {C CW a : Addr} {H H' : Hp} {ps : List Pc} (h : PcsAt C CW H a ps) (s : ExtN H H') : PcsAt C CW H' a ps := by
  obtain ⟨as, h1, h2⟩ := h
  exact ⟨as, s _ _ h1 (fun ps z => by cases z), paired_mono (fun _ _ h => h.ext s) h2⟩
theorem PcsAt.same {C CW a : Addr} {H H' : Hp} {ps : List Pc} (h : PcsAt C CW H a ps) (s : Same H H') : PcsAt C CW H' a ps := h.ext (ExtN.of s)
def mkPc (x : SyLex.Word × Nat) : Pc := ⟨(x.2 : Int), x.1⟩
theorem leL_data : PySem.W.dataLe false (fun p : Pc => PyData.int (-((p.len : Nat) : Int))) = leL := by
  funext a b
  show (!PySem.W.dataLt (.int (-((b.len : Nat) : Int))) (.int (-((a.len : Nat) : Int)))) = _
  rw [PySem.W.dataLt_int]
  unfold leL
  rw [Bool.eq_iff_iff]
  simp only [Bool.not_eq_true', decide_eq_false_iff_not, decide_eq_true_eq]
  omega
/-- what the lexicon's words keep to -/
def GoodL (L : Lexicon) : Prop := L.length ≤ 100000 ∧ ∀ x ∈ L, x.text ≠ []
def spPiecesAt (C CW : Addr) (T : List (Addr × Str)) : Sp := fun vs H Q _ => ∃ (l a : Addr) (k : Nat) (as : List Addr) (g : Weights) (s : Text), vs = [.ref l, .int (g.alone : Nat), .ref a, .int (k : Nat)] ∧ H l = some (.lst (as.map V.ref)) ∧ WordsAt CW H as g.words ∧
  GoodL g.words ∧ H a = some (.tup (tI s)) ∧ k < s.length ∧ s.length ≤ 24 ∧ Tabs T H ∧ ∀ H' p, FreshN H p → ExtN H H' → Tabs T H' → PcsAt C CW H' p (pcsAt g (s.drop k)) → Q (.ref p) H'
theorem scPiecesAt : FnScope ["lexicon", "alone", "signs", "place", "pieces", "number", "word"] ["lexicon", "alone", "signs", "place"] (defScope sPiecesAt) := ⟨rfl, rfl, rfl, by decide +kernel, rfl, by decide +kernel, by decide +kernel⟩
theorem ok_piecesAt {C CW fI c P0 : Addr} {T : List (Addr × Str)} {f : Addr} {fd fdI : FuncData} (F : FunC K "pieces_at" "pieces_at" sPiecesAt f fd c) (G : Glob mg) (TP : PieceC K mg C) (TW : WordC K mg CW) (MP : Mk K C fI)
    (FI : FnOk P w K mg base CX0 1 fI fdI ["self", "number", "word"] (spPieceInit C)) (bI0 : Binds K fdI ["self", "number", "word"] [])
    (h1 : Has P w K mg base CX0 1 "stands_at" ["word", "signs", "place"] (spStandsAt CW)) (h2 : Has P w K mg base CX0 3 "by_itself" ["sound", "alone"] (spByItself C CW))
    (TB : TabB base mg c P0) (hm : (P0, ("pieces_at" : Str) ++ ".<locals>." ++ "<lambda>") ∈ T) (hu : ∀ p ∈ T, p.1 = P0 → p.2 = ("pieces_at" : Str) ++ ".<locals>." ++ "<lambda>") :
    FnOk P w K mg base CX0 5 f fd ["lexicon", "alone", "signs", "place"] (spPiecesAt C CW T) := by
  obtain ⟨f1, fd1, G1, m1, k1, b1⟩ := h1
  obtain ⟨f2, fd2, G2, m2, k2, b2⟩ := h2
  refine F.ok scPiecesAt (fun vs H Q E h => ?_) (fun A outer s H vs Q E hr h => ?_)
  · obtain ⟨l, a, k, as, g, s, rfl, _⟩ := h
    rfl
  · refine ⟨_, pss_cons (ps_setLc (i := 4) (own := [("number", 5), ("word", 6)]) (g := gTup K 2 (gCons (gName 5) (gCons (gName 6) gNil))) (tt := tB (tCall (spStandsAt CW) [] E0 (tCons (tVar 6) (tCons (tVar 2) (tCons (tVar 3) tNil))))) rfl scPiecesAt.nd rfl rfl (sw_true rfl rfl rfl (by decide +kernel)) (pi_enum rfl G.enumerate (pa_cons (pv 0) pa_nil))
          (blkOk_by (N := ["lexicon", "alone", "signs", "place", "pieces", "number", "word"]) (sc := defScope sPiecesAt) (by decide +kernel))
          (fun _ _ _ _ _ => pg_tup rfl (pgs_cons (pg_name (i := 5) scPiecesAt.nd rfl (Or.inl rfl)) (pgs_cons (pg_name (i := 6) scPiecesAt.nd rfl (Or.inl rfl)) pgs_nil)))
          (fun _ _ _ _ _ => pts_one (pt_val (pe_call G1 (hr.mono (by decide)) rfl m1 k1 b1 .nil pass0 (pa_cons (pv 6) (pa_cons (pv 2) (pa_cons (pv 3) pa_nil))))))
          (fun _ _ _ _ _ => pe_make MP FI (hr.mono (by decide)) rfl TP.gC bI0 .nil pass0 (pa_cons (pv 5) (pa_cons (pv 6) pa_nil))))
      (pss_cons (ps_expr (pe_bm PySem.F.plainAttrs_list PySem.F.slot_list_append PySem.F.type_list_append mt_append (pv 4)
          (pa_cons (pe_call G2 (hr.mono (by decide)) rfl m2 k2 b2 .nil pass0 (pa_cons (pe_ix ix_tup (pv 2) (pv 3) (fun _ _ => rfl)) (pa_cons (pv 1) pa_nil))) pa_nil)))
      (pss_one (ps_ret (pe_sortLamC (n := 0) hr rfl G.sorted (pv 4) TB hm hu (fun _ => rfl) (fun _ => rfl) (fun y hy => ?_) (fun _ _ _ _ _ => rfl) rfl rfl rfl rfl (fun x hx => ?_))))), ?_⟩
    · have e : y = (("piece" : Str), NameKind.local) ∨ y = (("len" : Str), NameKind.globalImplicit) := by simpa using hy
      rcases e with e | e <;> rw [e] <;> decide
    · have e : x = (("piece" : Str), NameKind.local) ∨ x = (("len" : Str), NameKind.globalImplicit) := by simpa using hx
      rcases e with e | e <;> rw [e] <;> decide
    · obtain ⟨l, a, k, as, g, s, rfl, hl, hw, hgood, ha, hk, hs24, hT, q⟩ := h
      have elen := Paired.length hw
      refine seq_asg ⟨_, rfl, l, as.map V.ref, rfl, .inl (.inl hl), fun D nD => ?_⟩
      refine lc_enum (xs := as.map V.ref) (fun i Hc => Same H Hc ∧ ∃ bs : List Addr, Hc D = some (.lst (bs.map V.ref)) ∧ Paired (fun b p => PieceAt C CW Hc b p) bs (((g.words.zipIdx.take i).filter fun x => (s.drop k).take x.1.text.length == x.1.text).map mkPc))
        ⟨same_upd nD, [], upd_same, .nil⟩ (fun i Hc _ p => .inl (.inl (p.1 _ _ hl))) ?_ ?_
      · rintro i x Hc Tt hx ⟨sm, bs, hD, hp⟩ nT
        rw [List.getElem?_map] at hx
        cases ei : as[i]? with
        | none => rw [ei] at hx; cases hx
        | some ai =>
        rw [ei] at hx
        cases hx
        obtain ⟨wd, ewd, hwd⟩ := paired_get hw ei
        have ez : g.words.zipIdx[i]? = some (wd, i) := by rw [List.getElem?_zipIdx, ewd]; simp
        have sT : Same Hc (upd Hc Tt (.tup [.int (i : Nat), .ref ai])) := same_upd nT
        have hil : bs.length ≤ i := by
          rw [Paired.length hp, List.length_map]
          refine Nat.le_trans (List.length_filter_le _ _) ?_
          rw [List.length_take]
          omega
        have hi2 : i < g.words.length := (List.getElem?_eq_some_iff.mp ewd).1
        refine ⟨Tt, _, rfl, SqT.of upd_same, rfl, _, _, rfl, gname ⟨_, _, rfl, gname ⟨rfl, rfl, ?_⟩⟩⟩
        refine tB_of (call_of (arg_is (ie_v rfl) (arg_is (ie_v rfl) (arg1 (ie_v rfl) ⟨ai, a, wd, s, k, rfl, hwd.same (sm.trans sT), sT _ _ (sm _ _ ha), fun H3 s3 => ⟨_, rfl, if_bool (fun e => ?_) (fun e => ?_)⟩⟩))))
        · refine make_of (arg_is (ie_v rfl) (arg1 (ie_v rfl) ?_))
          intro x dx nx ndx ne
          refine ⟨x, dx, ai, i, rfl, upd_same, fun H4 hx4 but => ⟨rfl, ?_⟩⟩
          have s4 := keep_made nx ndx but
          have sc : Same Hc H4 := (sT.trans s3).trans s4
          refine ⟨bs.map V.ref, sc _ _ hD, by rw [List.length_map]; have := hgood.1; exact big (by omega), same_mine (sm.trans sc) nD, bs ++ [x], by rw [upd_same, List.map_append]; rfl, ?_⟩
          have kp : KeepTI Hc (upd H4 D (.lst (bs.map V.ref ++ [.ref x]))) := keep_own sc hD
          have kp4 : KeepTI H4 (upd H4 D (.lst (bs.map V.ref ++ [.ref x]))) := keep_own (Same.refl H4) (sc _ _ hD)
          rw [take_more ez, List.filter_append, List.map_append, List.filter_cons]
          simp only
          rw [if_pos (show ((s.drop k).take wd.text.length == wd.text) = true from e)]
          refine paired_snoc ?_ (paired_mono (fun _ _ h => h.keepTI kp) hp)
          exact (show PieceAt C CW H4 x (mkPc (wd, i)) from ⟨dx, ai, hx4, hwd.same (sm.trans sc)⟩).keepTI kp4
        · have sc : Same Hc H3 := sT.trans s3
          refine ⟨sm.trans sc, bs, sc _ _ hD, ?_⟩
          rw [take_more ez, List.filter_append, List.map_append, List.filter_cons]
          simp only
          rw [if_neg (by rw [show ((s.drop k).take wd.text.length == wd.text) = stands wd s k from rfl, e]; exact Bool.false_ne_true)]
          rw [show (List.filter (fun (x : SyLex.Word × Nat) => (s.drop k).take x.1.text.length == x.1.text) ([] : List (SyLex.Word × Nat))) = [] from rfl, List.map_nil, List.append_nil]
          exact paired_mono (fun _ _ h => h.same sc) hp
      · rintro Hc ⟨sm, bs, hD, hp⟩
        rw [List.length_map, elen, List.take_of_length_le (by rw [List.length_zipIdx]; exact Nat.le_refl _)] at hp
        have hp : Paired (fun b p => PieceAt C CW Hc b p) bs (found g (s.drop k)) := hp
        have hbl : bs.length ≤ 100000 := by
          rw [Paired.length hp]
          unfold found
          rw [List.length_map]
          refine Nat.le_trans (List.length_filter_le _ _) ?_
          rw [List.length_zipIdx]
          exact hgood.1
        obtain ⟨ch, hch⟩ : ∃ ch, s[k]? = some ch := ⟨_, List.getElem?_eq_getElem hk⟩
        have hix : (tI s)[k]? = some (.int (ch : Nat)) := by rw [List.getElem?_map, hch]; rfl
        have hhead : (s.drop k).headD 0 = ch := by
          rw [List.headD_eq_head?_getD, List.head?_drop, hch]
          rfl
        have hne : s.drop k ≠ [] := by
          intro z
          have := congrArg List.length z
          rw [List.length_drop] at this
          simp at this
          omega
        refine ⟨_, rfl, Or.inl ⟨rfl, _, .inl (.inl hD)⟩, ?_⟩
        refine call_of (arg_is (ie_ixT (ie_v rfl) (ie_v rfl) (.inl (.inl (sm _ _ ha))) hix) (arg1 (ie_v rfl) ⟨ch, g.alone, rfl, fun H2 b s2 nb hb => ?_⟩))
        refine ⟨D, _, _, rfl, rfl, s2 _ _ hD, by rw [List.length_map]; exact big (by omega), ?_⟩
        have kp2 : KeepTI H2 (upd H2 D (.lst (bs.map V.ref ++ [.ref b]))) := keep_own (Same.refl H2) (s2 _ _ hD)
        have hp3 : Paired (fun y p => PieceAt C CW (upd H2 D (.lst (bs.map V.ref ++ [.ref b]))) y p) (bs ++ [b]) (found g (s.drop k) ++ [itself g.alone ((s.drop k).headD 0)]) := by
          rw [hhead]
          exact paired_snoc (hb.keepTI kp2) (paired_mono (fun _ _ h => (h.same s2).keepTI kp2) hp)
        have hD3 : (upd H2 D (.lst (bs.map V.ref ++ [.ref b]))) D = some (.lst ((bs ++ [b]).map V.ref)) := by rw [upd_same, List.map_append]; rfl
        have s3 : Same H (upd H2 D (.lst (bs.map V.ref ++ [.ref b]))) := same_mine (sm.trans s2) nD
        generalize upd H2 D (.lst (bs.map V.ref ++ [.ref b])) = H3 at hp3 hD3 s3
        generalize bs ++ [b] = bs' at hp3 hD3
        obtain ⟨e1, e2, e3⟩ := paired_zip hp3
        have hsort := pcs_sorted g hne (by rw [List.length_drop]; omega) hgood.2
        generalize found g (s.drop k) ++ [itself g.alone ((s.drop k).headD 0)] = ps at hp3 e1 e2 e3 hsort
        dsimp only
        refine ret_of ⟨_, rfl, hT.ext s3, fun H4 eN T4 => ⟨Addr × Pc, D, bs'.zip ps, Prod.fst, fun b => .int (-((b.2.len : Nat) : Int)), rfl, ?_, ?_, ?_, fun b _ => ?_, fun b hb => ?_, fun l nl => ?_⟩⟩
        · have ez : (bs'.zip ps).map (fun b => V.ref b.1) = bs'.map V.ref := by
            rw [← e1, List.map_map]
            rw [e1]
            rfl
          rw [ez]
          exact .inl (.inl (eN _ _ hD3 fun ps z => by cases z))
        · intro d hd d' hd'
          obtain ⟨b, _, rfl⟩ := List.mem_map.mp hd
          obtain ⟨b', _, rfl⟩ := List.mem_map.mp hd'
          simp [PySem.W.alike]
        · refine .inr fun d hd => ?_
          obtain ⟨b, _, rfl⟩ := List.mem_map.mp hd
          exact ⟨fun z => (by cases z), fun xs z => (by cases z)⟩
        · exact Nat.zero_le _
        · obtain ⟨dx, x, h1, h2⟩ := (e3 b hb).ext eN
          obtain ⟨dx2, r, t, g1, g2, g3⟩ := h2
          have := SayS.keys_negLen (P := P) (w := w) (mg := mg) (base := base) (f1 := "word") (f2 := "text") (p := "piece") (scope := { kind := .function, names := [("piece", .local), ("len", .globalImplicit)], isGenerator := false, isCoroutine := false, more := [] }) rfl rfl rfl h1 TP.cl TP.n2 rfl g1 TW.cl TW.n2 rfl g3 rfl G.len (p0 := ⟨193, 49, 193, 54⟩) (p1 := ⟨193, 49, 193, 59⟩) (p2 := ⟨193, 49, 193, 64⟩) (p3 := ⟨193, 45, 193, 48⟩) (p4 := ⟨193, 45, 193, 65⟩) (p5 := ⟨193, 44, 193, 65⟩) (fun _ => rfl) (fun _ => rfl)
          rw [List.length_map] at this
          exact this
        · have hperm := List.mergeSort_perm (bs'.zip ps) (PySem.W.dataLe false fun b => PyData.int (-((b.2.len : Nat) : Int)))
          have eE : ExtN H3 (upd H4 l (.lst (((bs'.zip ps).mergeSort (PySem.W.dataLe false fun b => PyData.int (-((b.2.len : Nat) : Int)))).map fun b => V.ref b.1))) := fun b o e n => by
            rw [upd_ne (ne_of_none (eN b o e n) nl)]
            exact eN b o e n
          refine q _ l (FreshN.of ((ExtN.of s3).trans eN) nl) ((ExtN.of s3).trans eE) (T4.ext fun b o e => by rw [upd_ne (ne_of_none e nl)]; exact e) ⟨((bs'.zip ps).mergeSort (PySem.W.dataLe false fun b => PyData.int (-((b.2.len : Nat) : Int)))).map Prod.fst, ?_, ?_⟩
          · rw [upd_same, List.map_map]
            rfl
          · have es : ((bs'.zip ps).mergeSort (PySem.W.dataLe false fun b => PyData.int (-((b.2.len : Nat) : Int)))).map Prod.snd = pcsAt g (s.drop k) := by
              rw [← hsort]
              have e4 := PySem.W.sort_maps (r := PySem.W.dataLe false fun b : Addr × Pc => PyData.int (-((b.2.len : Nat) : Int))) (s := leL) (l := bs'.zip ps) Prod.snd fun x _ y _ => by
                rw [← leL_data]
                rfl
              rw [e4, e2]
            rw [← es]
            exact paired_maps fun b hb => (e3 b (hperm.mem_iff.mp hb)).ext eE
end Say
set_option Elab.async false
set_option linter.all false
set_option maxRecDepth 100000
set_option maxHeartbeats 1000000
/-! The pieces of all places; how many ways. -/
namespace Say
open PySem PySem.Spec PyProof.Rows L2
open SyBase SyLex SyWays SyBack
open LamX (Tabs ExtN TabB TabS)
variable {P : Program} {w : World} {K : PySem.W.Frag} {mg : Str → Option Value} {base : Heap}
theorem seq_of {t u : TS} {D : Ends} {σ : L2.St} {H : Hp} (q : t { D with nx := u D } σ H) : tSeq t u D σ H := q
theorem for_of {wi : TI} {g : TG} {tb : TS} {D : Ends} {σ : L2.St} {H : Hp} (q : wi σ H fun J H1 => ∃ W : Nat → Nat → L2.St → Hp → Prop, (∃ m, W 0 m σ H1) ∧ ∀ i m σ H, W i m σ H →
    (J.stop i H ∧ D.nx σ H) ∨ (J.go i H ∧ ∃ N : L2.St → Hp → Prop, (∀ σ' H', N σ' H' → ∃ m', m' < m ∧ W (i + 1) m' σ' H') ∧ ∀ x H', J.yld i H x H' → g x σ H' fun σ2 H2 => tb { D with nx := N, ct := N, bk := D.nx } σ2 H2)) : tFor wi g tb D σ H := q
theorem rng3_of {ta : TA} {σ : L2.St} {H : Hp} {R : It → Hp → Prop} (q : ta σ H fun vs H1 => ∃ (i j c : Int) (n : Nat), vs = [.int i, .int j, .int c] ∧ RgC i j c n ∧ R (Itc i c n) H1) : iRng3 ta σ H R := q
theorem list_of {K : PySem.W.Frag} {tl : TE} {σ : L2.St} {H : Hp} {R : It → Hp → Prop} (q : tl σ H fun x H1 => ∃ a, x = .ref a ∧ (∃ xs, SqL K H1 a xs) ∧ R (Itl K a) H1) : iList K tl σ H R := q
theorem asg_of {t : TE} {g : TG} {D : Ends} {σ : L2.St} {H : Hp} (q : t σ H fun x H1 => g x σ H1 D.nx) : tAsg t g D σ H := q
theorem lc_of {wi : TI} {g : TG} {tt : TT} {te : TE} {vs : List Nat} {σ : L2.St} {H : Hp} {Q : VK} (q : wi σ H fun J H1 => ∀ D, H1 D = none → ∃ W : Nat → Nat → Hp → Prop, (∃ m, W 0 m (upd H1 D (.lst []))) ∧ ∀ i m H, W i m H →
    (J.stop i H ∧ Q (.ref D) H) ∨ (J.go i H ∧ ∃ Nx : Hp → Prop, (∀ H', Nx H' → ∃ m', m' < m ∧ W (i + 1) m' H') ∧ ∀ x H', J.yld i H x H' → g x (wipe σ vs) H' fun σ2 H2 => wipe σ2 vs = wipe σ vs ∧ tt σ2 H2 fun b H3 =>
      if b = true then te σ2 H3 fun y H4 => ∃ acc, H4 D = some (.lst acc) ∧ acc.length < sizeLine ∧ Nx (upd H4 D (.lst (acc ++ [y]))) else Nx H3)) : tLc wi g tt te vs σ H Q := q
theorem arg_of {t : TE} {r : TA} {σ : L2.St} {H : Hp} {Q : List V → Hp → Prop} (q : t σ H fun x H1 => r σ H1 fun xs H2 => Q (x :: xs) H2) : tCons t r σ H Q := q
theorem args_one {t : TE} {σ : L2.St} {H : Hp} {Q : List V → Hp → Prop} (q : t σ H fun x H1 => Q [x] H1) : tCons t tNil σ H Q := q
/-- lists of pieces in a list -/
def GridAt (C CW : Addr) (H : Hp) (a : Addr) (L : List (List Pc)) : Prop := ∃ as : List Addr, H a = some (.lst (as.map V.ref)) ∧ Paired (fun b ps => PcsAt C CW H b ps) as L
theorem GridAt.ext {C CW a : Addr} {H H' : Hp} {L : List (List Pc)} (h : GridAt C CW H a L) (s : ExtN H H') : GridAt C CW H' a L := by
  obtain ⟨as, h1, h2⟩ := h
  exact ⟨as, s _ _ h1 (fun ps z => by cases z), paired_mono (fun _ _ h => h.ext s) h2⟩
theorem GridAt.same {C CW a : Addr} {H H' : Hp} {L : List (List Pc)} (h : GridAt C CW H a L) (s : Same H H') : GridAt C CW H' a L := h.ext (ExtN.of s)
/-- the pieces at each place of a text -/
def grid (g : Weights) (s : Text) : List (List Pc) := (List.range s.length).map fun k => pcsAt g (s.drop k)
theorem grid_length (g : Weights) (s : Text) : (grid g s).length = s.length := by
  unfold grid
  rw [List.length_map, List.length_range]
theorem grid_get {g : Weights} {s : Text} {k : Nat} (h : k < s.length) : (grid g s)[k]? = some (pcsAt g (s.drop k)) := by
  unfold grid
  rw [List.getElem?_map, List.getElem?_range h]
  rfl
theorem PcsAt.own {C CW b D : Addr} {H : Hp} {ps : List Pc} {xs : List V} {o : HO} (h : PcsAt C CW H b ps) (n : b ≠ D) (hD : H D = some (.lst xs)) : PcsAt C CW (upd H D o) b ps := by
  obtain ⟨as, h1, h2⟩ := h
  exact ⟨as, (upd_ne n).trans h1, paired_mono (fun _ _ h => h.keepTI (keep_own (Same.refl H) hD)) h2⟩
theorem extN_own {H H' : Hp} {D : Addr} {o : HO} (s : ExtN H H') (n : H D = none) : ExtN H (upd H' D o) := fun b u e t => by
  rw [upd_ne (ne_of_none e n)]
  exact s b u e t
theorem tabs_own {T : List (Addr × Str)} {H : Hp} {D : Addr} {xs : List V} {o : HO} (t : Tabs T H) (hD : H D = some (.lst xs)) : Tabs T (upd H D o) := fun p hp => by
  obtain ⟨ps, h1, h2, h3⟩ := t p hp
  refine ⟨ps, ?_, h2, fun pos cv hc => ?_⟩
  · rw [upd_ne (fun z => by rw [z, hD] at h1; cases h1)]
    exact h1
  · obtain ⟨c, e1, e2⟩ := h3 pos cv hc
    refine ⟨c, e1, ?_⟩
    rw [upd_ne (fun z => by rw [z, hD] at e2; cases e2)]
    exact e2
def spPiecesOf (C CW : Addr) (T : List (Addr × Str)) : Sp := fun vs H Q _ => ∃ (l a : Addr) (as : List Addr) (g : Weights) (s : Text), vs = [.ref l, .int (g.alone : Nat), .ref a] ∧ H l = some (.lst (as.map V.ref)) ∧ WordsAt CW H as g.words ∧
  GoodL g.words ∧ H a = some (.tup (tI s)) ∧ s.length ≤ 24 ∧ Tabs T H ∧ ∀ H' p, ExtN H H' → Tabs T H' → GridAt C CW H' p (grid g s) → Q (.ref p) H'
theorem scPiecesOf : FnScope ["lexicon", "alone", "signs", "place"] ["lexicon", "alone", "signs"] (defScope sPiecesOf) := ⟨rfl, rfl, rfl, by decide +kernel, rfl, by decide +kernel, by decide +kernel⟩
theorem words_ext {CW : Addr} {H H' : Hp} {as : List Addr} {ws : List SyLex.Word} (h : WordsAt CW H as ws) (s : ExtN H H') : WordsAt CW H' as ws := paired_mono (fun _ _ h => h.ext s) h
theorem ok_piecesOf {C CW : Addr} {T : List (Addr × Str)} {f : Addr} {fd : FuncData} (F : Fun K "pieces_of" "pieces_of" sPiecesOf f fd) (G : Glob mg)
    (h1 : Has P w K mg base CX0 5 "pieces_at" ["lexicon", "alone", "signs", "place"] (spPiecesAt C CW T)) : FnOk P w K mg base CX0 6 f fd ["lexicon", "alone", "signs"] (spPiecesOf C CW T) := by
  obtain ⟨f1, fd1, G1, m1, k1, b1⟩ := h1
  refine F.ok scPiecesOf (fun vs H Q E h => ?_) (fun cdv A outer s H vs Q E hr h => ?_)
  · obtain ⟨l, a, as, g, s, rfl, _⟩ := h
    rfl
  · refine ⟨_, pss_one (ps_ret (pe_lc (own := [("place", 3)]) (g := gName 3) (tt := tYes) rfl scPiecesOf.nd (pi_range1 rfl G.range (pa_cons (pe_callB call_len_seq rfl G.len PySem.boot_len (pa_cons (pv 2) pa_nil)) pa_nil))
        (blkOk_by (N := ["lexicon", "alone", "signs", "place"]) (sc := defScope sPiecesOf) (by decide +kernel)) (fun _ _ _ _ _ => pg_name (i := 3) scPiecesOf.nd rfl (Or.inl rfl)) (fun _ _ _ _ _ => pts_nil)
        (fun _ _ _ _ _ => pe_call G1 hr rfl m1 k1 b1 .nil pass0 (pa_cons (pv 0) (pa_cons (pv 1) (pa_cons (pv 2) (pa_cons (pv 3) pa_nil))))))), ?_⟩
    obtain ⟨l, a, as, g, s, rfl, hl, hw, hgood, ha, hs24, hT, q⟩ := h
    have hn : (tI s).length = s.length := by rw [List.length_map]
    refine ret_of ⟨_, rfl, a, tI s, rfl, .inr (.inl (.inl ha)), s.length, by rw [hn], by omega, by omega, fun D nD => ?_⟩
    refine lc_range (lo := 0) (n := s.length) (fun i Hc => ExtN H Hc ∧ Tabs T Hc ∧ ∃ bs : List Addr, Hc D = some (.lst (bs.map V.ref)) ∧ Paired (fun b ps => PcsAt C CW Hc b ps ∧ b ≠ D) bs ((grid g s).take i))
      ⟨ExtN.of (same_upd nD), hT.ext (same_upd nD), [], upd_same, .nil⟩ ?_ ?_
    · rintro i Hc hi ⟨eN, hTc, bs, hD, hp⟩
      refine gname ⟨rfl, yes_of ?_⟩
      have hbl : bs.length ≤ i := by
        rw [Paired.length hp, List.length_take]
        exact Nat.min_le_left _ _
      refine call_of (arg_is (ie_v rfl) (arg_is (ie_v rfl) (arg_is (ie_v rfl) (arg1 (ie_cast (ie_v rfl) (show V.int (0 + (i : Nat)) = V.int ((i : Nat) : Int) by rw [Int.zero_add])) ⟨l, a, i, as, g, s, rfl, eN _ _ hl (fun ps z => by cases z), words_ext hw eN, hgood, eN _ _ ha (fun ps z => by cases z), hi, hs24, hTc, fun H2 p fr e2 T2 hp2 => ?_⟩))))
      have hD2 : H2 D = some (.lst (bs.map V.ref)) := e2 _ _ hD (fun ps z => by cases z)
      have npD : p ≠ D := fun z => fr D _ hD (fun ps z => by cases z) z.symm
      refine ⟨_, hD2, by rw [List.length_map]; exact big (by omega), extN_own (eN.trans e2) nD, tabs_own T2 hD2, bs ++ [p], by rw [upd_same, List.map_append]; rfl, ?_⟩
      rw [take_more (grid_get hi)]
      exact paired_snoc ⟨hp2.own npD hD2, npD⟩ (paired_mono (fun _ _ h => ⟨(h.1.ext e2).own h.2 hD2, h.2⟩) hp)
    · rintro Hc ⟨eN, hTc, bs, hD, hp⟩
      rw [List.take_of_length_le (by rw [grid_length]; exact Nat.le_refl _)] at hp
      exact q Hc D eN hTc ⟨bs, hD, paired_mono (fun _ _ h => h.1) hp⟩
/-! ### how many -/
def nV (l : List Nat) : List V := l.map fun (n : Nat) => V.int (n : Int)
abbrev tLen (K : PySem.W.Frag) (t : TE) : TE := tCB (fun xs H Q => ∃ p ys, xs = [V.ref p] ∧ (SqL K H p ys ∨ SqT K H p ys) ∧ Q (V.int (ys.length : Nat)) H) (tCons t tNil)
theorem nV_ints (l : List Nat) : nV l = (l.map fun (n : Nat) => (n : Int)).map V.int := by
  unfold nV
  rw [List.map_map]
  rfl
theorem nV_get {l : List Nat} {i : Nat} (h : i < l.length) : (nV l)[i]? = some (.int (l.getD i 0 : Nat)) := by
  unfold nV
  rw [List.getElem?_map, List.getD_eq_getElem?_getD, List.getElem?_eq_getElem h]
  rfl
def spHowMany (C CW : Addr) : Sp := fun vs H Q _ => ∃ (a : Addr) (g : Weights) (s : Text), vs = [.ref a] ∧ GridAt C CW H a (grid g s) ∧ s.length ≤ 24 ∧ (∀ k < s.length, (pcsAt g (s.drop k)).length ≤ 200000) ∧ ∀ H', Same H H' → Q (.int (manyBacks g s : Nat)) H'
theorem scHowMany : FnScope ["pieces", "counts", "place", "piece"] ["pieces"] (defScope sHowMany) := ⟨rfl, rfl, rfl, by decide +kernel, rfl, by decide +kernel, by decide +kernel⟩
theorem sum_int (l : List Nat) : (l.map fun (n : Nat) => (n : Int)).sum = ((l.sum : Nat) : Int) := by
  induction l with
  | nil => rfl
  | cons a l ih => rw [List.map_cons, List.sum_cons, List.sum_cons, ih, Int.natCast_add]
theorem ixN_nat {n k : Nat} (h : k < n) : ixN n (k : Int) = some k := by
  unfold ixN
  rw [if_pos (by omega), if_pos (by omega)]
  rfl
theorem pieceText {C CW : Addr} {TP : PieceC K mg C} {TW : WordC K mg CW} {t : TE} {σ : L2.St} {H : Hp} {a : Addr} {p : Pc} (h : IsE t σ H (.ref a)) (hp : PieceAt C CW H a p) :
    IsE (tCB (fun xs H Q => ∃ p ys, xs = [V.ref p] ∧ (SqL K H p ys ∨ SqT K H p ys) ∧ Q (V.int (ys.length : Nat)) H) (tCons (tFld K (tFld K t "word") "text") tNil)) σ H (.int (p.len : Nat)) := by
  obtain ⟨dx, x, h1, dx2, r, u, g1, g2, g3⟩ := hp
  exact ie_cast (ie_lenT (ie_fld (ie_fld h h1 TP.cl TP.n2 rfl) g1 TW.cl TW.n2 rfl) (.inl (.inl g3))) (by rw [List.length_map]; rfl)
theorem ok_howMany {C CW : Addr} {f : Addr} {fd : FuncData} (F : Fun K "how_many" "how_many" sHowMany f fd) (G : Glob mg) (TP : PieceC K mg C) (TW : WordC K mg CW) : FnOk P w K mg base CX0 1 f fd ["pieces"] (spHowMany C CW) := by
  refine F.ok scHowMany (fun vs H Q E h => ?_) (fun cdv A outer s H vs Q E hr h => ?_)
  · obtain ⟨a, g, s, rfl, _⟩ := h
    rfl
  · refine ⟨_, pss_cons (ps_set (i := 1) scHowMany.nd rfl (Or.inr rfl) (pe_op op_cat (pe_op op_rep (pe_lst (pa_cons pe_int pa_nil)) (pe_callB call_len_seq rfl G.len PySem.boot_len (pa_cons (pv 0) pa_nil))) (pe_lst (pa_cons pe_int pa_nil))))
      (pss_cons (ps_for PassesOwn.never rfl (pi_range3 rfl G.range (pa_cons (pe_op op_sub (pe_callB call_len_seq rfl G.len PySem.boot_len (pa_cons (pv 0) pa_nil)) pe_int) (pa_cons (pe_un un_neg pe_int) (pa_cons (pe_un un_neg pe_int) pa_nil)))) (pg_name (i := 2) scHowMany.nd rfl (Or.inr rfl))
        (pss_one (ps_asg (pe_callB (cr_sum rfl) rfl G.sum boot_sum (pa_cons
          (pe_lc (own := [("piece", 3)]) (g := gName 3) (tt := tYes) (te := tOp (rIxL K) (tVar 1) (tOp (rI0 fun i j => .int (i + j)) (tVar 2) (tLen K (tFld K (tFld K (tVar 3) "word") "text")))) rfl scHowMany.nd (pi_list (pe_ix ix_list (pv 0) (pv 2) (fun _ _ => rfl))) (blkOk_by (N := ["pieces", "counts", "place", "piece"]) (sc := defScope sHowMany) (by decide +kernel)) (fun _ _ _ _ _ => pg_name (i := 3) scHowMany.nd rfl (Or.inl rfl)) (fun _ _ _ _ _ => pts_nil)
            (fun _ _ _ _ _ => pe_ix ix_list (pv 1) (pe_op op_add (pv 2) (pe_callB call_len_seq rfl G.len PySem.boot_len (pa_cons (pe_fld (pe_fld (pv 3) rfl) rfl) pa_nil))) (fun _ _ => rfl))) pa_nil))
          (pg_sub (pv 1) (pv 2) set_list))))
      (pss_one (ps_ret (pe_ix ix_list (pv 1) pe_int (fun _ _ => rfl))))), ?_⟩
    obtain ⟨a, g, s, rfl, ⟨as, ha, hp⟩, hs24, hsz, q⟩ := h
    have elen : as.length = s.length := (Paired.length hp).trans (grid_length g s)
    refine seq_asg ⟨by show 1 ≤ sizeLine; decide, fun p1 n1 => ?_⟩
    have s1 : Same H (upd H p1 (.lst [V.int 0])) := same_upd n1
    have e1 : ((as.map V.ref).length : Int).toNat = s.length := by rw [List.length_map, elen]; omega
    refine (ie_len (ie_v rfl) (.inl (.inl (s1 _ _ ha)))) _ ⟨p1, _, _, rfl, rfl, upd_same, by rw [List.length_map, elen]; omega, by rw [List.length_map, elen]; omega, by rw [e1]; exact Nat.le_of_lt (big (by simp; omega)), fun p2 n2 => ?_⟩
    rw [e1]
    have s2 : Same H (upd (upd H p1 (.lst [V.int 0])) p2 (.lst (List.replicate s.length [V.int 0]).flatten)) := s1.trans (same_upd n2)
    have h2 : (upd (upd H p1 (.lst [V.int 0])) p2 (.lst (List.replicate s.length [V.int 0]).flatten)) p2 = some (.lst (nV (List.replicate s.length 0))) := by
      rw [upd_same]
      congr 2
      unfold nV
      rw [List.map_replicate]
      induction s.length with
      | zero => rfl
      | succ n ih => rw [List.replicate_succ, List.flatten_cons, ih, List.replicate_succ]; rfl
    generalize upd (upd H p1 (.lst [V.int 0])) p2 (.lst (List.replicate s.length [V.int 0]).flatten) = H2 at s2 h2
    refine ⟨by show 1 ≤ sizeLine; decide, fun p3 n3 => ?_⟩
    have n23 : p2 ≠ p3 := ne_of_none h2 n3
    refine ⟨p2, p3, _, _, rfl, rfl, (upd_ne n23).trans h2, upd_same, Nat.le_of_lt (big (by unfold nV; simp; omega)), fun p4 n4 => ?_⟩
    have s3 : Same H (upd H2 p3 (.lst [V.int 1])) := s2.trans (same_upd n3)
    have n4H : H p4 = none := not_there s3 n4
    have s4 : Same H (upd (upd H2 p3 (.lst [V.int 1])) p4 (.lst (nV (List.replicate s.length 0) ++ [V.int 1]))) := s3.trans (same_upd n4)
    have h4 : (upd (upd H2 p3 (.lst [V.int 1])) p4 (.lst (nV (List.replicate s.length 0) ++ [V.int 1]))) p4 = some (.lst (nV (List.replicate s.length 0 ++ backCounts g (s.drop s.length)))) := by
      rw [upd_same, List.drop_length]
      unfold nV
      rw [List.map_append]
      rfl
    generalize upd (upd H2 p3 (.lst [V.int 1])) p4 (.lst (nV (List.replicate s.length 0) ++ [V.int 1])) = H4 at s4 h4
    have hL : ((as.map V.ref).length : Int) = (s.length : Int) := by rw [List.length_map, elen]
    have hrg : RgC (((as.map V.ref).length : Int) - 1) (-1) (-1) s.length := by
      rw [hL]
      have := RgC.neg (i := (s.length : Int) - 1) (j := -1) (by omega) (by omega) (by omega) (by omega)
      rw [show ((s.length : Int) - 1 - -1).toNat = s.length by omega] at this
      exact this
    refine seq_of (for_of (rng3_of (arg_is (ie_i0 (ie_len (ie_v rfl) (.inl (.inl (s4 _ _ ha)))) ie_c) (arg_is (neg_is ie_c) (arg1 (neg_is ie_c) ⟨_, _, _, s.length, rfl, hrg, ?_⟩)))))
    refine for_rangeC (lo := ((as.map V.ref).length : Int) - 1) (c := -1) (n := s.length) (fun i σ Hc => ∃ v2 v3 : Option V, σ = [some (.ref a), some (.ref p4), v2, v3] ∧ Same H Hc ∧ Hc p4 = some (.lst (nV (List.replicate (s.length - i) 0 ++ backCounts g (s.drop (s.length - i))))))
      ⟨none, none, rfl, s4, h4⟩ ?_ ?_
    · rintro i σ Hc hi ⟨v2, v3, rfl, sm, hc⟩
      obtain ⟨m, hm⟩ : ∃ m, s.length - i = m + 1 := ⟨s.length - i - 1, by omega⟩
      have hmn : m < s.length := by omega
      have ei : ((as.map V.ref).length : Int) - 1 + (i : Nat) * -1 = (m : Int) := by rw [hL]; omega
      rw [hm] at hc
      rw [ei]
      obtain ⟨ps, eps, bs, hb, hpb⟩ : ∃ b, as[m]? = some b ∧ PcsAt C CW H b (pcsAt g (s.drop m)) := by
        obtain ⟨b, eb⟩ : ∃ b, as[m]? = some b := ⟨_, List.getElem?_eq_getElem (by omega)⟩
        obtain ⟨ps, e, h⟩ := paired_get hp eb
        rw [grid_get hmn] at e
        cases e
        exact ⟨b, eb, h⟩
      have eix : (as.map V.ref)[m]? = some (V.ref ps) := by rw [List.getElem?_map, eps]; rfl
      refine gname (asg_of (cb_of (args_one (lc_of (list_of ?_)))))
      refine (ie_ixL (ie_v rfl) (ie_v rfl) (.inl (.inl (sm _ _ ha))) eix) _ ⟨ps, rfl, ⟨_, .inl (.inl (sm _ _ hb))⟩, fun D nD => ?_⟩
      have hpsz := hsz m hmn
      have hdn : s.drop m ≠ [] := by
        intro z
        have := congrArg List.length z
        rw [List.length_drop] at this
        simp at this
        omega
      have hcl := counts_length g (s.drop (m + 1))
      rw [List.length_drop] at hcl
      refine lc_list (xs := bs.map V.ref) (fun j H5 => Same Hc H5 ∧ H5 D = some (.lst (nV (((pcsAt g (s.drop m)).take j).map fun p => (backCounts g ((s.drop m).drop 1)).getD (p.len - 1) 0)))) ⟨same_upd nD, upd_same⟩ (fun j H5 _ p => .inl (.inl (p.1 _ _ (sm _ _ hb)))) ?_ ?_
      · rintro j x H5 hx ⟨s5, hD⟩
        rw [List.getElem?_map] at hx
        cases ej : bs[j]? with
        | none => rw [ej] at hx; cases hx
        | some b =>
        rw [ej] at hx
        cases hx
        obtain ⟨pc, epc, hpc⟩ := paired_get hpb ej
        have hl := pcs_len (List.mem_of_getElem? epc)
        rw [List.length_drop] at hl
        refine gname ⟨rfl, yes_of ?_⟩
        have e6 : (nV (List.replicate (m + 1) 0 ++ backCounts g (s.drop (m + 1))))[m + pc.len]? = some (V.int ((backCounts g ((s.drop m).drop 1)).getD (pc.len - 1) 0 : Nat)) := by
          rw [nV_get (by rw [List.length_append, List.length_replicate, hcl]; omega), List.drop_drop]
          congr 2
          rw [List.getD_eq_getElem?_getD, List.getElem?_append_right (by rw [List.length_replicate]; omega), List.length_replicate, List.getD_eq_getElem?_getD, show m + pc.len - (m + 1) = pc.len - 1 by omega]
        refine (ie_ixL (ie_v rfl) (ie_addN (ie_v rfl) (pieceText (TP := TP) (TW := TW) (ie_v rfl) (hpc.same (sm.trans s5)))) (.inl (.inl (s5 _ _ hc))) e6) _ ⟨_, hD, ?_, same_mine s5 nD, ?_⟩
        · unfold nV
          rw [List.length_map, List.length_map, List.length_take]
          exact big (by omega)
        · rw [upd_same, take_more epc]
          unfold nV
          rw [List.map_append, List.map_append]
          rfl
      · rintro H5 ⟨s5, hD⟩
        rw [List.length_map, Paired.length hpb, List.take_length] at hD
        refine ⟨D, ((pcsAt g (s.drop m)).map fun p => (backCounts g ((s.drop m).drop 1)).getD (p.len - 1) 0).map fun (n : Nat) => (n : Int), rfl, .inl (.inl (by rw [hD, nV_ints])), ?_⟩
        rw [sum_int]
        have hstep := counts_step g hdn
        generalize ((pcsAt g (s.drop m)).map fun p => (backCounts g ((s.drop m).drop 1)).getD (p.len - 1) 0).sum = S at hstep
        refine ⟨_, rfl, _, rfl, p4, _, _, m, rfl, rfl, s5 _ _ hc, ixN_nat (by unfold nV; rw [List.length_map, List.length_append, List.length_replicate, hcl]; omega), ?_⟩
        refine ⟨_, _, rfl, same_mine (sm.trans s5) n4H, ?_⟩
        rw [upd_same, show s.length - (i + 1) = m by omega, hstep, List.drop_drop]
        congr 2
        unfold nV
        rw [List.map_append, List.map_append, List.map_cons, List.replicate_succ', List.map_append, List.append_assoc, List.set_append_right _ _ (by simp)]
        simp
    · rintro σ Hc ⟨v2, v3, rfl, sm, hc⟩
      rw [Nat.sub_self, List.drop_zero, List.replicate_zero, List.nil_append] at hc
      have hcl := counts_length g s
      have e7 : (nV (backCounts g s))[0]? = some (.int (manyBacks g s : Nat)) := by
        rw [nV_get (by omega)]
        unfold manyBacks
        rw [List.getD_eq_getElem?_getD, List.headD_eq_head?_getD, List.head?_eq_getElem?]
      dsimp only
      exact ret_is (ie_ixL (i := 0) (ie_v rfl) ie_c (.inl (.inl hc)) e7) (q Hc sm)
end Say
set_option Elab.async false
set_option linter.all false
set_option maxRecDepth 100000
set_option maxHeartbeats 1000000
/-! What the ways from a piece on cost. -/
namespace Say
open PySem PySem.Spec PyProof.Rows L2
open SyBase SyLex SyWays SyBack
open LamX (Tabs ExtN TabB TabS)
variable {P : Program} {w : World} {K : PySem.W.Frag} {mg : Str → Option Value} {base : Heap}
/-- rows of numbers, each in a list of its own, in a list -/
def RowsN (H : Hp) (a : Addr) (rs : List (List Nat)) : Prop := ∃ as : List Addr, H a = some (.lst (as.map V.ref)) ∧ Paired (fun b l => H b = some (.lst (nV l))) as rs
theorem RowsN.same {H H' : Hp} {a : Addr} {rs : List (List Nat)} (h : RowsN H a rs) (s : Same H H') : RowsN H' a rs := by
  obtain ⟨as, h1, h2⟩ := h
  exact ⟨as, s _ _ h1, paired_mono (fun _ _ h => s _ _ h) h2⟩
/-- the joins that stand there are those that are weighed with -/
def JoinsG (CJ : Addr) (H : Hp) (j : Addr) (g : Weights) : Prop := ∃ js, JoinsAt CJ H j g.alone js ∧ ∀ x y, joinCost js x y = g.join x y
theorem JoinsG.same {CJ j : Addr} {H H' : Hp} {g : Weights} (h : JoinsG CJ H j g) (s : Same H H') : JoinsG CJ H' j g := by
  obtain ⟨js, ⟨dx, d, h1, h2⟩, h3⟩ := h
  exact ⟨js, ⟨dx, d, s _ _ h1, s _ _ h2⟩, h3⟩
def stepOf (g : Weights) (p : Pc) (x : Pc × List Nat) : List Nat := x.2.map fun c => (p.wd.cost + g.join p.wd.right x.1.wd.left) + c
theorem next_is (g : Weights) (p : Pc) (fs : List Pc) (rs : List (List Nat)) : nextOf g p fs rs = (fs.zip rs).flatMap (stepOf g p) := rfl
theorem flat_take_le {α β : Type} (f : α → List β) : ∀ (l : List α) (i : Nat), ((l.take i).flatMap f).length ≤ (l.flatMap f).length
  | [], i => by simp
  | a :: l, 0 => by simp
  | a :: l, i + 1 => by
    rw [List.take_succ_cons, List.flatMap_cons, List.flatMap_cons, List.length_append, List.length_append]
    have := flat_take_le f l i
    omega
def spCostsFrom (C CW CJ : Addr) : Sp := fun vs H Q _ => ∃ (a f r j : Addr) (p : Pc) (fs : List Pc) (rs : List (List Nat)) (g : Weights), vs = [.ref a, .ref f, .ref r, .ref j] ∧ PieceAt C CW H a p ∧ PcsAt C CW H f fs ∧ RowsN H r rs ∧ JoinsG CJ H j g ∧
  fs.length = rs.length ∧ (nextOf g p fs rs).length ≤ 100000 ∧ ∀ H' q, Same H H' → H q = none → H' q = some (.lst (nV (nextOf g p fs rs))) → Q (.ref q) H'
theorem scCostsFrom : FnScope ["piece", "followers", "rows", "joins", "costs", "follower", "row", "step", "cost"] ["piece", "followers", "rows", "joins"] (defScope sCostsFrom) := ⟨rfl, rfl, rfl, by decide +kernel, rfl, by decide +kernel, by decide +kernel⟩
theorem ok_costsFrom {C CW CJ fB : Addr} {f : Addr} {fd fdB : FuncData} (F : Fun K "costs_from" "costs_from" sCostsFrom f fd) (G : Glob mg) (TP : PieceC K mg C) (TW : WordC K mg CW) (TJ : JoinsC K mg CJ) (mB : Meth K CJ "between" fB)
    (FB : FnOk P w K mg base CX0 1 fB fdB ["self", "right", "left"] (spBetween CJ)) (bB : Binds K fdB ["self", "right", "left"] []) : FnOk P w K mg base CX0 2 f fd ["piece", "followers", "rows", "joins"] (spCostsFrom C CW CJ) := by
  refine F.ok scCostsFrom (fun vs H Q E h => ?_) (fun cdv A outer s H vs Q E hr h => ?_)
  · obtain ⟨a, f, r, j, p, fs, rs, g, rfl, _⟩ := h
    rfl
  · refine ⟨_, pss_cons (ps_set (i := 4) scCostsFrom.nd rfl (Or.inl rfl) (pe_lst pa_nil))
      (pss_cons (ps_for PassesOwn.never rfl (pi_zip rfl G.zip (pa_cons (pv 1) (pa_cons (pv 2) pa_nil))) (pg_tup rfl (pgs_cons (pg_name (i := 5) scCostsFrom.nd rfl (Or.inl rfl)) (pgs_cons (pg_name (i := 6) scCostsFrom.nd rfl (Or.inl rfl)) pgs_nil)))
        (pss_cons (ps_set (i := 7) scCostsFrom.nd rfl (Or.inr rfl) (pe_op op_add (pe_fld (pe_fld (pv 0) rfl) rfl) (pe_meth (pv 3) TJ.cl mB FB hr bB .nil pass0 (pa_cons (pe_fld (pe_fld (pv 0) rfl) rfl) (pa_cons (pe_fld (pe_fld (pv 5) rfl) rfl) pa_nil)))))
        (pss_one (ps_expr (pe_bm PySem.F.plainAttrs_list PySem.F.slot_list_extend PySem.F.type_list_extend mt_extend (pv 4) (pa_cons
          (pe_lc (own := [("cost", 8)]) (g := gName 8) (tt := tYes) (te := tOp (rI0 fun i j => .int (i + j)) (tVar 7) (tVar 8)) rfl scCostsFrom.nd (pi_list (pv 6))
            (blkOk_by (N := ["piece", "followers", "rows", "joins", "costs", "follower", "row", "step", "cost"]) (sc := defScope sCostsFrom) (by decide +kernel)) (fun _ _ _ _ _ => pg_name (i := 8) scCostsFrom.nd rfl (Or.inl rfl)) (fun _ _ _ _ _ => pts_nil)
            (fun _ _ _ _ _ => pe_op op_add (pv 7) (pv 8))) pa_nil))))))
      (pss_one (ps_ret (pv 4)))), ?_⟩
    obtain ⟨a, f, r, j, p, fs, rs, g, rfl, hpc, ⟨as, hf, hfs⟩, ⟨bs, hb, hbs⟩, hJ, hlen, hsz, q⟩ := h
    refine seq_asg ⟨by show 0 ≤ sizeLine; decide, fun q1 nq => ?_⟩
    have ela := Paired.length hfs
    have elb := Paired.length hbs
    rw [next_is] at hsz q
    have s0 : Same H (upd H q1 (.lst [])) := same_upd nq
    refine ⟨_, rfl, _, rfl, f, r, as.map V.ref, bs.map V.ref, rfl, .inl (.inl (s0 _ _ hf)), .inl (.inl (s0 _ _ hb)), ?_⟩
    refine RZ.for_zipL (by rw [List.length_map, List.length_map]; omega) (fun i σ Hc => ∃ v5 v6 v7 v8 : Option V, σ = [some (.ref a), some (.ref f), some (.ref r), some (.ref j), some (.ref q1), v5, v6, v7, v8] ∧ Same H Hc ∧ Hc q1 = some (.lst (nV (((fs.zip rs).take i).flatMap (stepOf g p)))))
      ⟨none, none, none, none, rfl, s0, upd_same⟩ (fun i σ Hc ⟨_, _, _, _, _, sm, _⟩ => ⟨.inl (.inl (sm _ _ hf)), .inl (.inl (sm _ _ hb))⟩) ?_ ?_
    · rintro i x y Tt σ Hc hx hy ⟨v5, v6, v7, v8, rfl, sm, hq⟩ nT
      rw [List.getElem?_map] at hx hy
      cases ex : as[i]? with
      | none => rw [ex] at hx; cases hx
      | some ai =>
      cases ey : bs[i]? with
      | none => rw [ey] at hy; cases hy
      | some bi =>
      rw [ex] at hx
      rw [ey] at hy
      cases hx
      cases hy
      obtain ⟨pf, epf, hpf⟩ := paired_get hfs ex
      obtain ⟨row, erow, hrow⟩ := paired_get hbs ey
      have ez : (fs.zip rs)[i]? = some (pf, row) := by
        rw [List.getElem?_zip_eq_some]
        exact ⟨epf, erow⟩
      have sT : Same Hc (upd Hc Tt (.tup [.ref ai, .ref bi])) := same_upd nT
      have s1 := sm.trans sT
      refine ⟨Tt, _, rfl, SqT.of upd_same, rfl, _, _, rfl, gname ⟨_, _, rfl, gname ⟨rfl, ?_⟩⟩⟩
      obtain ⟨dxp, wp, hp1, dwp, rp, tp, hp2, _, _⟩ := hpc.same s1
      obtain ⟨dxf, wf, hf1, dwf, rf, tf, hf2, _, _⟩ := hpf.same s1
      obtain ⟨js, hjs, ejs⟩ := hJ.same s1
      obtain ⟨dj, dd, hj1, hj2⟩ := id hjs
      refine seq_asg ?_
      refine (ie_fld (ie_fld (ie_v rfl) hp1 TP.cl TP.n2 rfl) hp2 TW.cl TW.n5 rfl) _ ⟨_, rfl, j, dj, _, rfl, hj1, rfl, ?_⟩
      refine arg_is (ie_fld (ie_fld (ie_v rfl) hp1 TP.cl TP.n2 rfl) hp2 TW.cl TW.n4 rfl) (arg1 (ie_fld (ie_fld (ie_v rfl) hf1 TP.cl TP.n2 rfl) hf2 TW.cl TW.n3 rfl) ⟨j, _, _, _, js, rfl, hjs, fun H3 s3 => ⟨_, _, rfl, rfl, ?_⟩⟩)
      rw [ejs]
      have s13 := s1.trans s3
      have hrow3 := s13 _ _ hrow
      have hq3 : H3 q1 = some (.lst (nV (((fs.zip rs).take i).flatMap (stepOf g p)))) := s3 _ _ (sT _ _ hq)
      refine ⟨_, rfl, Or.inl ⟨rfl, _, .inl (.inl hq3)⟩, ?_⟩
      refine args_one (lc_of (list_of ?_))
      refine ⟨_, rfl, bi, rfl, ⟨_, .inl (.inl hrow3)⟩, fun D nD => ?_⟩
      have hle : ((((fs.zip rs).take i).flatMap (stepOf g p)) ++ stepOf g p (pf, row)).length ≤ 100000 := by
        have := flat_take_le (stepOf g p) (fs.zip rs) (i + 1)
        rw [take_more ez, List.flatMap_append, List.flatMap_singleton] at this
        omega
      have hle2 : row.length ≤ 100000 := by
        rw [List.length_append] at hle
        have e : (stepOf g p (pf, row)).length = row.length := by unfold stepOf; rw [List.length_map]
        omega
      refine lc_list (xs := nV row) (fun k H5 => Same H3 H5 ∧ H5 D = some (.lst (nV ((row.take k).map fun c => (p.wd.cost + g.join p.wd.right pf.wd.left) + c)))) ⟨same_upd nD, upd_same⟩ (fun k H5 _ z => .inl (.inl (z.1 _ _ hrow3))) ?_ ?_
      · rintro k x H5 hx ⟨s5, hD⟩
        unfold nV at hx
        rw [List.getElem?_map] at hx
        cases ek : row[k]? with
        | none => rw [ek] at hx; cases hx
        | some c =>
        rw [ek] at hx
        cases hx
        refine gname ⟨rfl, yes_of ?_⟩
        refine (ie_addN (x := p.wd.cost + g.join p.wd.right pf.wd.left) (y := c) (ie_cast (ie_v rfl) (by rw [Int.natCast_add])) (ie_v rfl)) _ ⟨_, hD, ?_, same_mine s5 nD, ?_⟩
        · unfold nV
          rw [List.length_map, List.length_map, List.length_take]
          exact big (by omega)
        · rw [upd_same, take_more ek]
          unfold nV
          rw [List.map_append, List.map_append]
          rfl
      · rintro H5 ⟨s5, hD⟩
        unfold nV at hD
        rw [List.length_map, List.take_length] at hD
        have hD : H5 D = some (.lst (nV (stepOf g p (pf, row)))) := hD
        refine ⟨q1, D, _, _, rfl, rfl, s5 _ _ hq3, hD, ?_, ?_⟩
        · unfold nV
          rw [List.length_map, List.length_map, ← List.length_append]
          exact Nat.le_of_lt (big (by omega))
        · refine ⟨_, _, _, _, rfl, same_mine (s13.trans s5) nq, ?_⟩
          rw [upd_same, take_more ez, List.flatMap_append, List.flatMap_singleton]
          unfold nV
          rw [List.map_append]
    · rintro σ Hc ⟨v5, v6, v7, v8, rfl, sm, hq⟩
      rw [List.length_map, List.take_of_length_le (by rw [List.length_zip]; omega)] at hq
      exact ⟨_, rfl, q Hc q1 sm nq hq⟩
end Say
set_option Elab.async false
set_option linter.all false
set_option maxRecDepth 100000
set_option maxHeartbeats 1000000
/-! The rows of costs, from the last place to the first. -/
namespace Say
open PySem PySem.Spec PyProof.Rows L2
open SyBase SyLex SyWays SyBack
open LamX (Tabs ExtN TabB TabS)
variable {P : Program} {w : World} {K : PySem.W.Frag} {mg : Str → Option Value} {base : Heap}
theorem op_of {r : R2} {ta tb : TE} {σ : L2.St} {H : Hp} {Q : VK} (q : ta σ H fun x H1 => tb σ H1 fun y H2 => r x y H2 Q) : tOp r ta tb σ H Q := q
theorem lst_of {t : TA} {σ : L2.St} {H : Hp} {Q : VK} (q : t σ H fun xs H1 => xs.length ≤ sizeLine ∧ ∀ p, H1 p = none → Q (.ref p) (upd H1 p (.lst xs))) : tLst t σ H Q := q
theorem meth_of {C : Addr} {m : Str} {sp : Sp} {dvs : List V} {E : XK} {ta : TE} {t : TA} {σ : L2.St} {H : Hp} {Q : VK} (q : ta σ H fun x H1 => ∃ a dx fs, x = .ref a ∧ H1 a = some (.ins C dx fs) ∧ fs.lookup m = none ∧
  t σ H1 fun vs H2 => sp (x :: (vs ++ dvs)) H2 Q E) : tMeth C m sp dvs E ta t σ H Q := q
theorem paired_of_get {α β : Type} {R : α → β → Prop} : ∀ {xs : List α} {ys : List β}, xs.length = ys.length → (∀ (k : Nat) a b, xs[k]? = some a → ys[k]? = some b → R a b) → Paired R xs ys
  | [], [], _, _ => .nil
  | [], _ :: _, h, _ => by cases h
  | _ :: _, [], h, _ => by cases h
  | x :: xs, y :: ys, h, r => .cons (r 0 x y rfl rfl) (paired_of_get (by simpa using h) fun k a b h1 h2 => r (k + 1) a b (by simpa using h1) (by simpa using h2))
/-- a row of rows, none of whose lists is among rl -/
def RowsX (rl : List Addr) (H : Hp) (a : Addr) (rs : List (List Nat)) : Prop := ∃ as : List Addr, H a = some (.lst (as.map V.ref)) ∧ Paired (fun b l => H b = some (.lst (nV l)) ∧ b ∉ rl) as rs
theorem RowsX.rows {rl : List Addr} {H : Hp} {a : Addr} {rs : List (List Nat)} (h : RowsX rl H a rs) : RowsN H a rs := by
  obtain ⟨as, h1, h2⟩ := h
  exact ⟨as, h1, paired_mono (fun _ _ h => h.1) h2⟩
theorem RowsX.same {rl : List Addr} {H H' : Hp} {a : Addr} {rs : List (List Nat)} (h : RowsX rl H a rs) (s : Same H H') : RowsX rl H' a rs := by
  obtain ⟨as, h1, h2⟩ := h
  exact ⟨as, s _ _ h1, paired_mono (fun _ _ h => ⟨s _ _ h.1, h.2⟩) h2⟩
theorem RowsX.upd {rl : List Addr} {H : Hp} {a c : Addr} {o : HO} {rs : List (List Nat)} (h : RowsX rl H a rs) (n : a ≠ c) (hc : c ∈ rl) : RowsX rl (L2.upd H c o) a rs := by
  obtain ⟨as, h1, h2⟩ := h
  exact ⟨as, (upd_ne n).trans h1, paired_mono (fun b _ h => ⟨(upd_ne fun z => h.2 (by rw [z]; exact hc)).trans h.1, h.2⟩) h2⟩
/-- the rows of all places, in a list -/
def Rows3 (H : Hp) (r : Addr) (g : Weights) (s : Text) : Prop := ∃ rl : List Addr, H r = some (.lst (rl.map V.ref)) ∧ Paired (fun a k => RowsN H a (rowsC g (s.drop k))) rl (List.range (s.length + 1))
/-- what stands so far: the places behind m are done, of m so many pieces -/
def sofar (g : Weights) (s : Text) (m j k : Nat) : List (List Nat) := if m < k then rowsC g (s.drop k) else if k = m then (rowsC g (s.drop m)).take j else []
structure Going (H1 Hc : Hp) (r : Addr) (rl : List Addr) (g : Weights) (s : Text) (m j : Nat) : Prop where
  same : Same H1 Hc
  nr : H1 r = none
  here : Hc r = some (.lst (rl.map V.ref))
  apart : r ∉ rl
  nodup : rl.Nodup
  len : rl.length = s.length + 1
  new : ∀ a ∈ rl, H1 a = none
  rows : ∀ k a, rl[k]? = some a → RowsX rl Hc a (sofar g s m j k)
theorem Going.keep {H1 Hc Hd : Hp} {r : Addr} {rl : List Addr} {g : Weights} {s : Text} {m j : Nat} (h : Going H1 Hc r rl g s m j) (e : Same Hc Hd) : Going H1 Hd r rl g s m j :=
  ⟨h.same.trans e, h.nr, e _ _ h.here, h.apart, h.nodup, h.len, h.new, fun k a q => (h.rows k a q).same e⟩
theorem Going.there {H1 Hc : Hp} {r : Addr} {rl : List Addr} {g : Weights} {s : Text} {m j : Nat} (h : Going H1 Hc r rl g s m j) : ∀ a ∈ rl, Hc a ≠ none := fun a ha z => by
  obtain ⟨k, hk⟩ := List.mem_iff_getElem?.mp ha
  obtain ⟨as, h1, _⟩ := h.rows k a hk
  rw [z] at h1
  cases h1
/-- one more piece at m -/
theorem Going.more {H1 Hc : Hp} {r c q : Addr} {rl : List Addr} {g : Weights} {s : Text} {m j : Nat} {p : Pc} {as : List Addr} (h : Going H1 Hc r rl g s m j) (hc : rl[m]? = some c) (ha : Hc c = some (.lst (as.map V.ref))) (hp : Paired (fun b l => Hc b = some (.lst (nV l)) ∧ b ∉ rl) as ((rowsC g (s.drop m)).take j))
    (ep : (rowsC g (s.drop m))[j]? = some (rowC g p ((s.drop m).drop p.len))) (hq : Hc q = some (.lst (nV (rowC g p ((s.drop m).drop p.len))))) (nq : q ∉ rl) : Going H1 (upd Hc c (.lst ((as ++ [q]).map V.ref))) r rl g s m (j + 1) := by
  have hm : c ∈ rl := List.mem_of_getElem? hc
  refine ⟨same_mine h.same (h.new c hm), h.nr, (upd_ne fun z => h.apart (by rw [z]; exact hm)).trans h.here, h.apart, h.nodup, h.len, h.new, fun k a e => ?_⟩
  by_cases ek : k = m
  · subst ek
    rw [hc] at e
    cases e
    refine ⟨as ++ [q], upd_same, ?_⟩
    unfold sofar
    rw [if_neg (Nat.lt_irrefl _), if_pos rfl, take_more ep]
    refine paired_snoc ⟨(upd_ne fun z => nq (by rw [z]; exact hm)).trans hq, nq⟩ (paired_mono (fun b _ h => ⟨(upd_ne fun z => h.2 (by rw [z]; exact hm)).trans h.1, h.2⟩) hp)
  · have ne : a ≠ c := fun z => by
      subst z
      have h1 := List.getElem?_eq_some_iff.mp e
      have h2 := List.getElem?_eq_some_iff.mp hc
      obtain ⟨l1, g1⟩ := h1
      obtain ⟨l2, g2⟩ := h2
      exact ek ((List.getElem_inj h.nodup).mp (g1.trans g2.symm))
    have es : sofar g s m (j + 1) k = sofar g s m j k := by
      unfold sofar
      rw [if_neg ek, if_neg ek]
    rw [es]
    exact (h.rows k a e).upd ne hm
/-- the next place -/
theorem Going.next {H1 Hc : Hp} {r : Addr} {rl : List Addr} {g : Weights} {s : Text} {m j : Nat} (h : Going H1 Hc r rl g s (m + 1) j) (hj : (rowsC g (s.drop (m + 1))).length ≤ j) : Going H1 Hc r rl g s m 0 := by
  refine ⟨h.same, h.nr, h.here, h.apart, h.nodup, h.len, h.new, fun k a e => ?_⟩
  have es : sofar g s m 0 k = sofar g s (m + 1) j k := by
    unfold sofar
    by_cases h1 : m + 1 < k
    · rw [if_pos h1, if_pos (by omega)]
    · rw [if_neg h1]
      by_cases h2 : k = m + 1
      · rw [if_pos h2, if_pos (by omega), h2, List.take_of_length_le hj]
      · rw [if_neg h2, if_neg (by omega), List.take_zero]
        by_cases h3 : k = m
        · rw [if_pos h3]
        · rw [if_neg h3]
  rw [es]
  exact h.rows k a e
def spRowsOf (C CW CJ : Addr) : Sp := fun vs H Q _ => ∃ (a j : Addr) (g : Weights) (s : Text), vs = [.ref a, .ref j] ∧ GridAt C CW H a (grid g s) ∧ JoinsG CJ H j g ∧ s.length ≤ 24 ∧ (W g s).length ≤ 1024 ∧
  ∀ H' r, Same H H' → H r = none → Rows3 H' r g s → Q (.ref r) H'
theorem scRowsOf : FnScope ["pieces", "joins", "ends", "rows", "place", "piece", "behind", "pieces_here"] ["pieces", "joins"] (defScope sRowsOf) := ⟨rfl, rfl, rfl, by decide +kernel, rfl, by decide +kernel, by decide +kernel⟩
theorem ok_rowsOf {C CW CJ : Addr} {f : Addr} {fd : FuncData} (F : Fun K "rows_of" "rows_of" sRowsOf f fd) (G : Glob mg) (TP : PieceC K mg C) (TW : WordC K mg CW)
    (h1 : Has P w K mg base CX0 3 "edge" [] (spEdge C CW)) (h2 : Has P w K mg base CX0 2 "costs_from" ["piece", "followers", "rows", "joins"] (spCostsFrom C CW CJ)) : FnOk P w K mg base CX0 4 f fd ["pieces", "joins"] (spRowsOf C CW CJ) := by
  obtain ⟨f1, fd1, G1, m1, k1, b1⟩ := h1
  obtain ⟨f2, fd2, G2, m2, k2, b2⟩ := h2
  refine F.ok scRowsOf (fun vs H Q E h => ?_) (fun cdv A outer s H vs Q E hr h => ?_)
  · obtain ⟨a, j, g, s, rfl, _⟩ := h
    rfl
  · refine ⟨_, pss_cons (ps_set (i := 2) scRowsOf.nd rfl (Or.inl rfl) (pe_op op_cat (pv 0) (pe_lst (pa_cons (pe_lst (pa_cons (pe_call0 G1 hr rfl m1 k1 b1 .nil pass0) pa_nil)) pa_nil))))
      (pss_cons (ps_set (i := 3) scRowsOf.nd rfl (Or.inl rfl) (pe_op op_cat
          (pe_lc (own := [("pieces_here", 7)]) (g := gName 7) (tt := tYes) (te := tLst tNil) rfl scRowsOf.nd (pi_list (pv 0)) (blkOk_by (N := ["pieces", "joins", "ends", "rows", "place", "piece", "behind", "pieces_here"]) (sc := defScope sRowsOf) (by decide +kernel)) (fun _ _ _ _ _ => pg_name (i := 7) scRowsOf.nd rfl (Or.inl rfl)) (fun _ _ _ _ _ => pts_nil) (fun _ _ _ _ _ => pe_lst pa_nil))
          (pe_lst (pa_cons (pe_lst (pa_cons (pe_lst (pa_cons pe_int pa_nil)) pa_nil)) pa_nil))))
      (pss_cons (ps_for PassesOwn.never rfl (pi_range3 rfl G.range (pa_cons (pe_op op_sub (pe_callB call_len_seq rfl G.len PySem.boot_len (pa_cons (pv 0) pa_nil)) pe_int) (pa_cons (pe_un un_neg pe_int) (pa_cons (pe_un un_neg pe_int) pa_nil)))) (pg_name (i := 4) scRowsOf.nd rfl (Or.inl rfl))
        (pss_one (ps_for PassesOwn.never rfl (pi_list (pe_ix ix_list (pv 0) (pv 4) (fun _ _ => rfl))) (pg_name (i := 5) scRowsOf.nd rfl (Or.inl rfl))
          (pss_cons (ps_set (i := 6) scRowsOf.nd rfl (Or.inl rfl) (pe_op op_add (pv 4) (pe_callB call_len_seq rfl G.len PySem.boot_len (pa_cons (pe_fld (pe_fld (pv 5) rfl) rfl) pa_nil))))
          (pss_one (ps_expr (pe_bm PySem.F.plainAttrs_list PySem.F.slot_list_append PySem.F.type_list_append mt_append (pe_ix ix_list (pv 3) (pv 4) (fun _ _ => rfl))
            (pa_cons (pe_call G2 (hr.mono (by decide)) rfl m2 k2 b2 .nil pass0 (pa_cons (pv 5) (pa_cons (pe_ix ix_list (pv 2) (pv 6) (fun _ _ => rfl)) (pa_cons (pe_ix ix_list (pv 3) (pv 6) (fun _ _ => rfl)) (pa_cons (pv 1) pa_nil))))) pa_nil))))))))
      (pss_one (ps_ret (pv 3))))), ?_⟩
    obtain ⟨a, j, g, s, rfl, ⟨as, ha, hp⟩, hJ, hs24, hW, q⟩ := h
    have elen : as.length = s.length := (Paired.length hp).trans (grid_length g s)
    refine seq_asg (op_of ⟨_, rfl, lst_of (args_one (lst_of (args_one (call_of ⟨rfl, fun H1 x s1 nx hx => ⟨by show 1 ≤ sizeLine; decide, fun e1 n1 => ⟨by show 1 ≤ sizeLine; decide, fun e2 n2 => ?_⟩⟩⟩))))⟩)
    have n1H : H1 e1 = none := n1
    have x1 : PieceAt C CW H1 x edgeP := hx
    refine ⟨a, e2, _, _, rfl, rfl, (same_upd n2) _ _ ((same_upd n1) _ _ (s1 _ _ ha)), upd_same, Nat.le_of_lt (big (by rw [List.length_map]; simp; omega)), fun e3 n3 => ?_⟩
    have s12 : Same H1 (upd H1 e1 (.lst [V.ref x])) := same_upd n1
    have s13 : Same H1 (upd (upd H1 e1 (.lst [V.ref x])) e2 (.lst [V.ref e1])) := s12.trans (same_upd n2)
    have s14 : Same H1 (upd (upd (upd H1 e1 (.lst [V.ref x])) e2 (.lst [V.ref e1])) e3 (.lst (as.map V.ref ++ [V.ref e1]))) := s13.trans (same_upd n3)
    have he1 : (upd (upd (upd H1 e1 (.lst [V.ref x])) e2 (.lst [V.ref e1])) e3 (.lst (as.map V.ref ++ [V.ref e1]))) e1 = some (.lst ([x].map V.ref)) := (same_upd n3) _ _ ((same_upd n2) _ _ upd_same)
    have he3 : (upd (upd (upd H1 e1 (.lst [V.ref x])) e2 (.lst [V.ref e1])) e3 (.lst (as.map V.ref ++ [V.ref e1]))) e3 = some (.lst ((as ++ [e1]).map V.ref)) := by rw [upd_same, List.map_append]; rfl
    have s4 := s1.trans s14
    have x4 := x1.same s14
    generalize upd (upd (upd H1 e1 (.lst [V.ref x])) e2 (.lst [V.ref e1])) e3 (.lst (as.map V.ref ++ [V.ref e1])) = H4 at s4 he1 he3 x4
    have hends : ∀ b, b ≤ s.length → ∃ eb, ((as ++ [e1]).map V.ref)[b]? = some (.ref eb) ∧ PcsAt C CW H4 eb (pcsEnd g (s.drop b)) := fun b hb => by
      rcases Nat.lt_or_ge b s.length with lt | ge
      · obtain ⟨c, ec⟩ : ∃ c, as[b]? = some c := ⟨_, List.getElem?_eq_getElem (by omega)⟩
        obtain ⟨ps, e, hps⟩ := paired_get hp ec
        rw [grid_get lt] at e
        cases e
        refine ⟨c, by rw [List.getElem?_map, List.getElem?_append_left (by omega), ec]; rfl, ?_⟩
        unfold pcsEnd
        rw [if_neg (by intro z; have := congrArg List.length z; rw [List.length_drop] at this; simp at this; omega)]
        exact hps.same s4
      · have eb : b = s.length := by omega
        subst eb
        refine ⟨e1, by rw [List.getElem?_map, List.getElem?_append_right (by omega), elen, Nat.sub_self]; rfl, ?_⟩
        unfold pcsEnd
        rw [List.drop_length, if_pos rfl]
        exact ⟨[x], he1, .cons x4 .nil⟩
    refine seq_asg (op_of (lc_of (list_of ⟨_, rfl, a, rfl, ⟨_, .inl (.inl (s4 _ _ ha))⟩, fun D nD => ?_⟩)))
    refine lc_list (xs := as.map V.ref) (fun i Hc => Same H4 Hc ∧ ∃ rl : List Addr, Hc D = some (.lst (rl.map V.ref)) ∧ rl.length = i ∧ rl.Nodup ∧ ∀ b ∈ rl, H4 b = none ∧ b ≠ D ∧ Hc b = some (.lst []))
      ⟨same_upd nD, [], upd_same, rfl, .nil, fun b hb => by cases hb⟩ (fun i Hc _ z => .inl (.inl (z.1 _ _ (s4 _ _ ha)))) ?_ ?_
    · rintro i y Hc hy ⟨sm, rl, hD, hl, hnd, hrl⟩
      have hi : i < (as.map V.ref).length := (List.getElem?_eq_some_iff.mp hy).1
      rw [List.length_map, elen] at hi
      refine gname ⟨rfl, yes_of ?_⟩
      refine ⟨by show 0 ≤ sizeLine; decide, fun p np => ?_⟩
      have spp : Same Hc (upd Hc p (.lst [])) := same_upd np
      have pD : D ≠ p := ne_of_none hD np
      refine ⟨_, spp _ _ hD, by rw [List.length_map]; exact big (by omega), same_mine (sm.trans spp) nD, rl ++ [p], by rw [upd_same, List.map_append]; rfl, by simp [hl], ?_, fun b hb => ?_⟩
      · refine List.nodup_append.mpr ⟨hnd, by simp, fun b hb c hc => ?_⟩
        have : c = p := by simpa using hc
        rw [this]
        exact ne_of_none (hrl b hb).2.2 np
      · rcases List.mem_append.mp hb with hb | hb
        · obtain ⟨h1, h2, h3⟩ := hrl b hb
          exact ⟨h1, h2, (upd_ne h2).trans (spp _ _ h3)⟩
        · have : b = p := by simpa using hb
          rw [this]
          exact ⟨not_there sm np, Ne.symm pD, (upd_ne (Ne.symm pD)).trans upd_same⟩
    · rintro Hc ⟨sm, rl, hD, hl, hnd, hrl⟩
      rw [List.length_map, elen] at hl
      refine lst_of (args_one (lst_of (args_one (lst_of ⟨by show 1 ≤ sizeLine; decide, fun y1 k1' => ⟨by show 1 ≤ sizeLine; decide, fun y2 k2' => ⟨by show 1 ≤ sizeLine; decide, fun y3 k3' => ?_⟩⟩⟩))))
      have t5 : Same Hc (upd Hc y1 (.lst [V.int 0])) := same_upd k1'
      have t6 : Same Hc (upd (upd Hc y1 (.lst [V.int 0])) y2 (.lst [V.ref y1])) := t5.trans (same_upd k2')
      have t7 : Same Hc (upd (upd (upd Hc y1 (.lst [V.int 0])) y2 (.lst [V.ref y1])) y3 (.lst [V.ref y2])) := t6.trans (same_upd k3')
      have hy1 : (upd (upd (upd Hc y1 (.lst [V.int 0])) y2 (.lst [V.ref y1])) y3 (.lst [V.ref y2])) y1 = some (.lst (nV [0])) := (same_upd k3') _ _ ((same_upd k2') _ _ upd_same)
      have hy2 : (upd (upd (upd Hc y1 (.lst [V.int 0])) y2 (.lst [V.ref y1])) y3 (.lst [V.ref y2])) y2 = some (.lst ([y1].map V.ref)) := (same_upd k3') _ _ upd_same
      have hy3 : (upd (upd (upd Hc y1 (.lst [V.int 0])) y2 (.lst [V.ref y1])) y3 (.lst [V.ref y2])) y3 = some (.lst [V.ref y2]) := upd_same
      have n12 : y1 ≠ y2 := ne_of_none upd_same k2'
      have y1rl : ∀ b ∈ rl, b ≠ y1 := fun b hb => ne_of_none (hrl b hb).2.2 k1'
      have y2rl : ∀ b ∈ rl, b ≠ y2 := fun b hb => ne_of_none (t5 _ _ (hrl b hb).2.2) k2'
      have y2n : H4 y2 = none := not_there (sm.trans t5) k2'
      generalize upd (upd (upd Hc y1 (.lst [V.int 0])) y2 (.lst [V.ref y1])) y3 (.lst [V.ref y2]) = H7 at t7 hy1 hy2 hy3
      refine ⟨D, y3, _, _, rfl, rfl, t7 _ _ hD, hy3, Nat.le_of_lt (big (by rw [List.length_map]; simp; omega)), fun R nR => ?_⟩
      have t8 : Same H7 (upd H7 R (.lst (rl.map V.ref ++ [V.ref y2]))) := same_upd nR
      have hR : (upd H7 R (.lst (rl.map V.ref ++ [V.ref y2]))) R = some (.lst ((rl ++ [y2]).map V.ref)) := by rw [upd_same, List.map_append]; rfl
      generalize upd H7 R (.lst (rl.map V.ref ++ [V.ref y2])) = H8 at t8 hR
      have go0 : Going H4 H8 R (rl ++ [y2]) g s s.length 1 := by
        refine ⟨(sm.trans t7).trans t8, not_there (sm.trans t7) nR, hR, fun z => ?_, ?_, by simp [hl], fun b hb => ?_, fun k b e => ?_⟩
        · rcases List.mem_append.mp z with z | z
          · exact ne_of_none (t7 _ _ (hrl R z).2.2) nR rfl
          · have : R = y2 := by simpa using z
            rw [this, hy2] at nR
            cases nR
        · refine List.nodup_append.mpr ⟨hnd, by simp, fun b hb c hc => ?_⟩
          have : c = y2 := by simpa using hc
          rw [this]
          exact y2rl b hb
        · rcases List.mem_append.mp hb with hb | hb
          · exact (hrl b hb).1
          · have : b = y2 := by simpa using hb
            rw [this]
            exact y2n
        · rcases Nat.lt_or_ge k rl.length with lt | ge
          · rw [List.getElem?_append_left lt] at e
            have hb := List.mem_of_getElem? e
            unfold sofar
            rw [if_neg (by omega), if_neg (by omega)]
            exact ⟨[], t8 _ _ (t7 _ _ (hrl b hb).2.2), .nil⟩
          · rw [List.getElem?_append_right ge] at e
            have ek : k = s.length := by
              have := (List.getElem?_eq_some_iff.mp e).1
              simp only [List.length_cons, List.length_nil] at this
              omega
            subst ek
            rw [hl, Nat.sub_self] at e
            cases e
            unfold sofar rowsC
            rw [if_neg (Nat.lt_irrefl _), if_pos rfl, List.drop_length, if_pos rfl]
            refine ⟨[y1], t8 _ _ hy2, .cons ⟨t8 _ _ hy1, fun z => ?_⟩ .nil⟩
            rcases List.mem_append.mp z with z | z
            · exact y1rl _ z rfl
            · exact n12 (by simpa using z)
      generalize rl ++ [y2] = rl2 at go0 hR
      have hL : ((as.map V.ref).length : Int) = (s.length : Int) := by rw [List.length_map, elen]
      have hrg : RgC (((as.map V.ref).length : Int) - 1) (-1) (-1) s.length := by
        rw [hL]
        have := RgC.neg (i := (s.length : Int) - 1) (j := -1) (by omega) (by omega) (by omega) (by omega)
        rw [show ((s.length : Int) - 1 - -1).toNat = s.length by omega] at this
        exact this
      refine seq_of (for_of (rng3_of (arg_is (ie_i0 (ie_len (ie_v rfl) (.inl (.inl (go0.same _ _ (s4 _ _ ha))))) ie_c) (arg_is (neg_is ie_c) (arg1 (neg_is ie_c) ⟨_, _, _, s.length, rfl, hrg, ?_⟩)))))
      refine for_rangeC (lo := ((as.map V.ref).length : Int) - 1) (c := -1) (n := s.length) (fun i σ Hc => ∃ (v4 v5 v6 v7 : Option V) (j' : Nat), σ = [some (.ref a), some (.ref j), some (.ref e3), some (.ref R), v4, v5, v6, v7] ∧ Going H4 Hc R rl2 g s (s.length - i) j' ∧ (rowsC g (s.drop (s.length - i))).length ≤ j')
        ⟨none, none, none, none, 1, rfl, go0, by rw [Nat.sub_zero, List.drop_length]; exact Nat.le_refl _⟩ ?_ ?_
      · rintro i σ Hd hi ⟨v4, v5, v6, v7, j', rfl, go, hj'⟩
        obtain ⟨m, hm⟩ : ∃ m, s.length - i = m + 1 := ⟨s.length - i - 1, by omega⟩
        have hmn : m < s.length := by omega
        have ei : ((as.map V.ref).length : Int) - 1 + (i : Nat) * -1 = (m : Int) := by rw [hL]; omega
        rw [hm] at go hj'
        have go := go.next hj'
        have em : s.length - (i + 1) = m := by omega
        rw [ei]
        obtain ⟨ps, eps, bs, hb, hpb⟩ : ∃ b, as[m]? = some b ∧ PcsAt C CW H b (pcsAt g (s.drop m)) := by
          obtain ⟨b, eb⟩ : ∃ b, as[m]? = some b := ⟨_, List.getElem?_eq_getElem (by omega)⟩
          obtain ⟨ps, e, h⟩ := paired_get hp eb
          rw [grid_get hmn] at e
          cases e
          exact ⟨b, eb, h⟩
        have eix : (as.map V.ref)[m]? = some (V.ref ps) := by rw [List.getElem?_map, eps]; rfl
        have hdn : s.drop m ≠ [] := by
          intro z
          have := congrArg List.length z
          rw [List.length_drop] at this
          simp at this
          omega
        have hpl : (pcsAt g (s.drop m)).length ≤ 1024 := Nat.le_trans (pcs_ways g hdn) (Nat.le_trans (W_drop g m s) hW)
        have hrows : rowsC g (s.drop m) = (pcsAt g (s.drop m)).map fun p => rowC g p ((s.drop m).drop p.len) := by unfold rowsC; rw [if_neg hdn]
        obtain ⟨cm, ecm⟩ : ∃ c, rl2[m]? = some c := ⟨_, List.getElem?_eq_getElem (by rw [go.len]; omega)⟩
        refine gname (for_of (list_of ?_))
        refine (ie_ixL (ie_v rfl) (ie_v rfl) (.inl (.inl (go.same _ _ (s4 _ _ ha)))) eix) _ ⟨ps, rfl, ⟨_, .inl (.inl (go.same _ _ (s4 _ _ hb)))⟩, ?_⟩
        refine for_list (xs := bs.map V.ref) (fun k σ He => ∃ (v5 v6 v7 : Option V), σ = [some (.ref a), some (.ref j), some (.ref e3), some (.ref R), some (.int (m : Nat)), v5, v6, v7] ∧ Going H4 He R rl2 g s m k)
          ⟨v5, v6, v7, rfl, go⟩ (fun k σ He _ ⟨_, _, _, _, z⟩ => .inl (.inl (z.same _ _ (s4 _ _ hb)))) ?_ ?_
        · rintro k y σ He hy ⟨v5, v6, v7, rfl, go⟩
          rw [List.getElem?_map] at hy
          cases ek : bs[k]? with
          | none => rw [ek] at hy; cases hy
          | some b =>
          rw [ek] at hy
          cases hy
          obtain ⟨pc, epc, hpc⟩ := paired_get hpb ek
          have hk : k < (pcsAt g (s.drop m)).length := (List.getElem?_eq_some_iff.mp epc).1
          have hl := pcs_len (List.mem_of_getElem? epc)
          rw [List.length_drop] at hl
          have hbn : m + pc.len ≤ s.length := by omega
          have pe := hpc.same (s4.trans go.same)
          refine gname (seq_set (ie_addN (ie_v rfl) (pieceText (TP := TP) (TW := TW) (ie_v rfl) pe)) ?_)
          obtain ⟨eb, eeb, hpeb⟩ := hends (m + pc.len) hbn
          obtain ⟨cb, ecb⟩ : ∃ c, rl2[m + pc.len]? = some c := ⟨_, List.getElem?_eq_getElem (by rw [go.len]; omega)⟩
          have hrb := go.rows _ _ ecb
          have esf : sofar g s m k (m + pc.len) = rowsC g (s.drop (m + pc.len)) := by unfold sofar; rw [if_pos (by omega)]
          rw [esf] at hrb
          obtain ⟨cs, hcm, hcs⟩ := go.rows _ _ ecm
          have esm : sofar g s m k m = (rowsC g (s.drop m)).take k := by unfold sofar; rw [if_neg (Nat.lt_irrefl _), if_pos rfl]
          rw [esm] at hcs
          have ixm : (rl2.map V.ref)[m]? = some (V.ref cm) := by rw [List.getElem?_map, ecm]; rfl
          have ixb : (rl2.map V.ref)[m + pc.len]? = some (V.ref cb) := by rw [List.getElem?_map, ecb]; rfl
          have enx : nextOf g pc (pcsEnd g (s.drop (m + pc.len))) (rowsC g (s.drop (m + pc.len))) = rowC g pc ((s.drop m).drop pc.len) := by rw [next_row, List.drop_drop]
          have erl : (rowC g pc ((s.drop m).drop pc.len)).length ≤ 1024 := by
            rw [row_length, List.drop_drop]
            exact Nat.le_trans (W_drop g _ s) hW
          refine (ie_ixL (ie_v rfl) (ie_v rfl) (.inl (.inl go.here)) ixm) _ ⟨.inl ⟨rfl, _, .inl (.inl hcm)⟩, ?_⟩
          refine args_one (call_of (arg_is (ie_v rfl) (arg_is (ie_ixL (ie_v rfl) (ie_v rfl) (.inl (.inl (go.same _ _ he3))) eeb) (arg_is (ie_ixL (ie_v rfl) (ie_v rfl) (.inl (.inl go.here)) ixb) (arg1 (ie_v rfl)
            ⟨b, eb, cb, j, pc, _, _, g, rfl, pe, hpeb.same go.same, hrb.rows, hJ.same (s4.trans go.same), ends_rows g _, by rw [enx]; omega, fun Hf q' sf nq hq => ?_⟩)))))
          rw [enx] at hq
          have gof := go.keep sf
          refine ⟨cm, _, _, rfl, rfl, sf _ _ hcm, ?_, ?_⟩
          · rw [List.length_map, Paired.length hcs, List.length_take]
            exact big (by omega)
          · refine ⟨_, _, _, rfl, ?_⟩
            have := gof.more (p := pc) (q := q') ecm (sf _ _ hcm) (paired_mono (fun _ _ h => ⟨sf _ _ h.1, h.2⟩) hcs) (by rw [hrows, List.getElem?_map, epc]; rfl) hq (fun z => go.there q' z nq)
            rw [List.map_append] at this
            exact this
        · rintro σ He ⟨v5, v6, v7, rfl, go⟩
          refine ⟨_, v5, v6, v7, _, rfl, by rw [em]; exact go, ?_⟩
          rw [em, hrows, List.length_map, List.length_map, Paired.length hpb]
          exact Nat.le_refl _
      · rintro σ Hd ⟨v4, v5, v6, v7, j', rfl, go, hj'⟩
        rw [Nat.sub_self] at go hj'
        refine ⟨_, rfl, q Hd R (s4.trans go.same) (not_there s4 go.nr) ⟨rl2, go.here, paired_of_get (by rw [go.len, List.length_range]) fun k b k' e1' e2' => ?_⟩⟩
        have hk : k < s.length + 1 := by rw [← go.len]; exact (List.getElem?_eq_some_iff.mp e1').1
        rw [List.getElem?_range hk] at e2'
        cases e2'
        have := (go.rows _ _ e1').rows
        have es : sofar g s 0 j' k = rowsC g (s.drop k) := by
          unfold sofar
          by_cases h0 : 0 < k
          · rw [if_pos h0]
          · have : k = 0 := by omega
            subst this
            rw [if_neg (Nat.lt_irrefl _), if_pos rfl, List.take_of_length_le hj']
        rw [es] at this
        exact this
end Say
set_option Elab.async false
set_option linter.all false
set_option maxRecDepth 100000
set_option maxHeartbeats 1000000
/-! A way by its rank. -/
namespace Say
open PySem PySem.Spec PyProof.Rows L2
open SyBase SyLex SyWays SyBack
open LamX (Tabs ExtN TabB TabS)
variable {P : Program} {w : World} {K : PySem.W.Frag} {mg : Str → Option Value} {base : Heap}
/-- a statement that is never come to -/
theorem ps_dead {X : Cx} {st : Stmt} : PS X st (fun _ _ _ => False) := ⟨fun _ _ _ _ _ _ h => h.elim⟩
abbrev walk (F : Pc → List (List Pc)) (fs : List Pc) : List (List Pc) := fs.flatMap fun p => (F p).map fun w => p :: w
def spPieceOfRank (C CW : Addr) : Sp := fun vs H Q _ => ∃ (rk : Nat) (f r : Addr) (fs : List Pc) (rs : List (List Nat)) (F : Pc → List (List Pc)) (ps : List Pc), vs = [.int (rk : Nat), .ref f, .ref r] ∧ PcsAt C CW H f fs ∧ RowsN H r rs ∧
  fs.length = rs.length ∧ (∀ (k : Nat) (p : Pc) (l : List Nat), fs[k]? = some p → rs[k]? = some l → l.length = (F p).length) ∧ (walk F fs)[rk]? = some ps ∧
  ∀ H' t a p ws (r' : Nat), Same H H' → H' t = some (.tup [.ref a, .int (r' : Nat)]) → PieceAt C CW H' a p → p ∈ fs → ps = p :: ws → (F p)[r']? = some ws → Q (.ref t) H'
theorem scPieceOfRank : FnScope ["rank", "pieces", "rows", "piece", "row"] ["rank", "pieces", "rows"] (defScope sPieceOfRank) := ⟨rfl, rfl, rfl, by decide +kernel, rfl, by decide +kernel, by decide +kernel⟩
theorem ok_pieceOfRank {C CW : Addr} {f : Addr} {fd : FuncData} (F : Fun K "piece_of_rank" "piece_of_rank" sPieceOfRank f fd) (G : Glob mg) : FnOk P w K mg base CX0 1 f fd ["rank", "pieces", "rows"] (spPieceOfRank C CW) := by
  refine F.ok scPieceOfRank (fun vs H Q E h => ?_) (fun cdv A outer s H vs Q E hr h => ?_)
  · obtain ⟨rk, f, r, fs, rs, Fw, ps, rfl, _⟩ := h
    rfl
  · refine ⟨_, pss_cons (ps_for PassesOwn.never rfl (pi_zip rfl G.zip (pa_cons (pv 1) (pa_cons (pv 2) pa_nil))) (pg_tup rfl (pgs_cons (pg_name (i := 3) scPieceOfRank.nd rfl (Or.inl rfl)) (pgs_cons (pg_name (i := 4) scPieceOfRank.nd rfl (Or.inl rfl)) pgs_nil)))
        (pss_cons (ps_if (pt_cmpR op_lt (pv 0) (pe_callB call_len_seq rfl G.len PySem.boot_len (pa_cons (pv 4) pa_nil)) (nomark _)) (pss_one (ps_ret (pe_tup (pa_cons (pv 3) (pa_cons (pv 0) pa_nil))))) pss_nil)
        (pss_one (ps_aug (i := 0) scPieceOfRank.nd rfl (Or.inl rfl) (pe_callB call_len_seq rfl G.len PySem.boot_len (pa_cons (pv 4) pa_nil)) ip_sub))))
      (pss_one ps_dead), ?_⟩
    obtain ⟨rk, f, r, fs, rs, Fw, ps, rfl, ⟨as, hf, hfs⟩, ⟨bs, hb, hbs⟩, hlen, hrow, hget, q⟩ := h
    have ela := Paired.length hfs
    have elb := Paired.length hbs
    refine ⟨_, rfl, _, rfl, f, r, as.map V.ref, bs.map V.ref, rfl, .inl (.inl hf), .inl (.inl hb), ?_⟩
    refine RZ.for_zipL (by rw [List.length_map, List.length_map]; omega) (fun i σ Hc => ∃ (v3 v4 : Option V) (rk : Nat), σ = [some (.int (rk : Nat)), some (.ref f), some (.ref r), v3, v4] ∧ Same H Hc ∧ (walk Fw (fs.drop i))[rk]? = some ps)
      ⟨none, none, rk, rfl, Same.refl H, hget⟩ (fun i σ Hc ⟨_, _, _, _, sm, _⟩ => ⟨.inl (.inl (sm _ _ hf)), .inl (.inl (sm _ _ hb))⟩) ?_ ?_
    · rintro i x y Tt σ Hc hx hy ⟨v3, v4, rk, rfl, sm, hg⟩ nT
      rw [List.getElem?_map] at hx hy
      cases ex : as[i]? with
      | none => rw [ex] at hx; cases hx
      | some ai =>
      cases ey : bs[i]? with
      | none => rw [ey] at hy; cases hy
      | some bi =>
      rw [ex] at hx
      rw [ey] at hy
      cases hx
      cases hy
      obtain ⟨pf, epf, hpf⟩ := paired_get hfs ex
      obtain ⟨row, erow, hrw⟩ := paired_get hbs ey
      have el := hrow i pf row epf erow
      have edrop : fs.drop i = pf :: fs.drop (i + 1) := by
        obtain ⟨lt, rfl⟩ := List.getElem?_eq_some_iff.mp epf
        exact List.drop_eq_getElem_cons lt
      rw [edrop] at hg
      have sT : Same Hc (upd Hc Tt (.tup [.ref ai, .ref bi])) := same_upd nT
      have s1 := sm.trans sT
      refine ⟨Tt, _, rfl, SqT.of upd_same, rfl, _, _, rfl, gname ⟨_, _, rfl, gname ⟨rfl, ?_⟩⟩⟩
      have ln : IsE (tLen K (tVar 4)) [some (.int (rk : Nat)), some (.ref f), some (.ref r), some (.ref ai), some (.ref bi)] (upd Hc Tt (.tup [.ref ai, .ref bi])) (.int (row.length : Nat)) :=
        ie_cast (ie_len (ie_v rfl) (.inl (.inl (s1 _ _ hrw)))) (by unfold nV; rw [List.length_map])
      refine seq_if (b := decide (rk < row.length)) (is_test (ie_ltN (ie_v rfl) ln)) (fun e => ?_) (fun e => ?_)
      · have e := of_decide_eq_true e
        obtain ⟨ws, e1, e2⟩ := rank_here (F := Fw) hg (by omega)
        refine ret_tup2 (ie_v rfl) (ie_v rfl) fun p np => ?_
        exact q _ p ai pf ws rk (s1.trans (same_upd np)) upd_same (hpf.same (s1.trans (same_upd np))) (List.mem_of_getElem? epf) e1 e2
      · have e := of_decide_eq_false e
        refine seq_next ?_
        refine ⟨_, rfl, ln _ ⟨_, _, rfl, rfl, ?_⟩⟩
        refine ⟨some (.ref ai), some (.ref bi), rk - row.length, ?_, s1, ?_⟩
        · rw [show ((rk - row.length : Nat) : Int) = (rk : Int) - (row.length : Int) by omega]
          rfl
        · rw [el]
          exact rank_there (F := Fw) hg (by omega)
    · rintro σ Hc ⟨v3, v4, rk, rfl, sm, hg⟩
      rw [List.length_map, List.drop_of_length_le (by omega)] at hg
      cases hg
def spPiecesOfRank (C CW : Addr) : Sp := fun vs H Q _ => ∃ (rk : Nat) (a r : Addr) (g : Weights) (s : Text) (ps : List Pc), vs = [.int (rk : Nat), .ref a, .ref r] ∧ GridAt C CW H a (grid g s) ∧ Rows3 H r g s ∧ s.length ≤ 24 ∧ (W g s)[rk]? = some ps ∧
  ∀ H' c, Same H H' → PcsAt C CW H' c ps → Q (.ref c) H'
theorem scPiecesOfRank : FnScope ["rank", "pieces", "rows", "chosen", "place", "piece"] ["rank", "pieces", "rows"] (defScope sPiecesOfRank) := ⟨rfl, rfl, rfl, by decide +kernel, rfl, by decide +kernel, by decide +kernel⟩
def leftAt (n : Nat) (σ : L2.St) : Nat := match σ[4]? with
  | some (some (V.int k)) => n - k.toNat
  | _ => 0
theorem ok_piecesOfRank {C CW : Addr} {f : Addr} {fd : FuncData} (F : Fun K "pieces_of_rank" "pieces_of_rank" sPiecesOfRank f fd) (G : Glob mg) (TP : PieceC K mg C) (TW : WordC K mg CW)
    (h1 : Has P w K mg base CX0 1 "piece_of_rank" ["rank", "pieces", "rows"] (spPieceOfRank C CW)) : FnOk P w K mg base CX0 2 f fd ["rank", "pieces", "rows"] (spPiecesOfRank C CW) := by
  obtain ⟨f1, fd1, G1, m1, k1, b1⟩ := h1
  refine F.ok scPiecesOfRank (fun vs H Q E h => ?_) (fun cdv A outer s H vs Q E hr h => ?_)
  · obtain ⟨rk, a, r, g, s, ps, rfl, _⟩ := h
    rfl
  · refine ⟨_, pss_cons (ps_set (i := 3) scPiecesOfRank.nd rfl (Or.inl rfl) (pe_lst pa_nil))
      (pss_cons (ps_set (i := 4) scPiecesOfRank.nd rfl (Or.inl rfl) pe_int)
      (pss_cons (ps_while PassesOwn.never (pt_cmpR op_lt (pv 4) (pe_callB call_len_seq rfl G.len PySem.boot_len (pa_cons (pv 1) pa_nil)) (nomark _))
        (pss_cons (ps_asg (pe_call G1 hr rfl m1 k1 b1 .nil pass0 (pa_cons (pv 0) (pa_cons (pe_ix ix_list (pv 1) (pv 4) (fun _ _ => rfl)) (pa_cons (pe_ix ix_list (pv 2) (pv 4) (fun _ _ => rfl)) pa_nil)))) (pg_tup rfl (pgs_cons (pg_name (i := 5) scPiecesOfRank.nd rfl (Or.inl rfl)) (pgs_cons (pg_name (i := 0) scPiecesOfRank.nd rfl (Or.inl rfl)) pgs_nil))))
        (pss_cons (ps_expr (pe_bm PySem.F.plainAttrs_list PySem.F.slot_list_append PySem.F.type_list_append mt_append (pv 3) (pa_cons (pv 5) pa_nil)))
        (pss_one (ps_aug (i := 4) scPiecesOfRank.nd rfl (Or.inl rfl) (pe_callB call_len_seq rfl G.len PySem.boot_len (pa_cons (pe_fld (pe_fld (pv 5) rfl) rfl) pa_nil)) ip_add)))))
      (pss_one (ps_ret (pv 3))))), ?_⟩
    obtain ⟨rk, a, r, g, s, ps, rfl, ⟨as, ha, hp⟩, ⟨rl, hr', hrl⟩, hs24, hget, q⟩ := h
    have elen : as.length = s.length := (Paired.length hp).trans (grid_length g s)
    have erl : rl.length = s.length + 1 := (Paired.length hrl).trans List.length_range
    refine ⟨by show 0 ≤ sizeLine; decide, fun c nc => ?_⟩
    refine gname ?_
    refine seq_set ie_c ?_
    refine while_by (fun σ Hc => ∃ (rk k : Nat) (bs : List Addr) (done rest : List Pc) (v5 : Option V), σ = [some (.int (rk : Nat)), some (.ref a), some (.ref r), some (.ref c), some (.int (k : Nat)), v5] ∧ k ≤ s.length ∧ Same H Hc ∧ Hc c = some (.lst (bs.map V.ref)) ∧
        Paired (fun b p => PieceAt C CW Hc b p) bs done ∧ bs.length ≤ k ∧ ps = done ++ rest ∧ (W g (s.drop k))[rk]? = some rest) (fun σ _ => leftAt s.length σ)
      ⟨rk, 0, [], [], ps, none, rfl, Nat.zero_le _, same_upd nc, upd_same, .nil, Nat.le_refl _, rfl, hget⟩ ?_ ?_
    · rintro σ Hc ⟨rk, k, bs, done, rest, v5, rfl, hk, sm, hc, hpd, hbl, eps, hget⟩
      refine is_cmp (x := (k : Nat)) (y := ((as.map V.ref).length : Nat)) rfl (ie_v rfl) (ie_len (ie_v rfl) (.inl (.inl (sm _ _ ha)))) _ ?_
      rw [List.length_map, elen]
      by_cases lt : k < s.length
      · refine if_true_of (decide_eq_true (by omega)) ?_
        have hdn : s.drop k ≠ [] := by
          intro z
          have := congrArg List.length z
          rw [List.length_drop] at this
          simp at this
          omega
        obtain ⟨pa, epa⟩ : ∃ b, as[k]? = some b := ⟨_, List.getElem?_eq_getElem (by omega)⟩
        obtain ⟨ra, era⟩ : ∃ b, rl[k]? = some b := ⟨_, List.getElem?_eq_getElem (by omega)⟩
        have hpa : PcsAt C CW H pa (pcsAt g (s.drop k)) := by
          obtain ⟨x, e, h⟩ := paired_get hp epa
          rw [grid_get lt] at e
          cases e
          exact h
        have hra : RowsN H ra (rowsC g (s.drop k)) := by
          obtain ⟨x, e, h⟩ := paired_get hrl era
          rw [List.getElem?_range (by omega)] at e
          cases e
          exact h
        have hrows : rowsC g (s.drop k) = (pcsAt g (s.drop k)).map fun p => rowC g p ((s.drop k).drop p.len) := by unfold rowsC; rw [if_neg hdn]
        rw [W_cons g hdn] at hget
        have ix1 : (as.map V.ref)[k]? = some (V.ref pa) := by rw [List.getElem?_map, epa]; rfl
        have ix2 : (rl.map V.ref)[k]? = some (V.ref ra) := by rw [List.getElem?_map, era]; rfl
        refine seq_asgG (call_of (arg_is (ie_v rfl) (arg_is (ie_ixL (ie_v rfl) (ie_v rfl) (.inl (.inl (sm _ _ ha))) ix1) (arg1 (ie_ixL (ie_v rfl) (ie_v rfl) (.inl (.inl (sm _ _ hr'))) ix2)
          ⟨rk, pa, ra, _, _, (fun p => W g ((s.drop k).drop p.len)), rest, rfl, hpa.same sm, hra.same sm, by rw [hrows, List.length_map], fun i p l e1 e2 => ?_, hget, fun H2 t b p ws r' s2 ht hb hm er hw => ?_⟩))))
        · rw [hrows, List.getElem?_map, e1] at e2
          cases e2
          exact row_length g p _
        · have hl := pcs_len hm
          rw [List.length_drop] at hl
          refine ⟨t, _, rfl, SqT.of ht, rfl, _, _, rfl, gname ⟨_, _, rfl, gname ⟨rfl, ?_⟩⟩⟩
          have hc2 : H2 c = some (.lst (bs.map V.ref)) := s2 _ _ hc
          refine ⟨_, rfl, Or.inl ⟨rfl, _, .inl (.inl hc2)⟩, _, rfl, c, _, _, rfl, rfl, hc2, by rw [List.length_map]; exact big (by omega), ?_⟩
          have kp : KeepTI H2 (upd H2 c (.lst (bs.map V.ref ++ [.ref b]))) := keep_own (Same.refl H2) hc2
          refine ⟨_, rfl, (pieceText (TP := TP) (TW := TW) (ie_v rfl) (hb.keepTI kp)) _ ⟨_, _, rfl, rfl, ?_⟩⟩
          have ek : ((k : Nat) : Int) + ((p.len : Nat) : Int) = ((k + p.len : Nat) : Int) := by omega
          refine ⟨⟨r', k + p.len, bs ++ [b], done ++ [p], ws, _, by rw [← ek]; rfl, by omega, same_mine (sm.trans s2) nc, by rw [upd_same, List.map_append]; rfl, paired_snoc (hb.keepTI kp) (paired_mono (fun _ _ h => (h.same s2).keepTI kp) hpd), by rw [List.length_append]; simp; omega, by rw [eps, er]; simp, by rw [← List.drop_drop]; exact hw⟩, ?_⟩
          show s.length - (((k : Nat) : Int) + ((p.len : Nat) : Int)).toNat < s.length - ((k : Nat) : Int).toNat
          omega
      · refine if_false_of (decide_eq_false (by omega)) ?_
        have ek : k = s.length := by omega
        subst ek
        rw [List.drop_length, W_nil] at hget
        have hrest : rest = [] := by
          cases rk with
          | zero => exact (Option.some.inj hget).symm
          | succ n => cases hget
        rw [hrest, List.append_nil] at eps
        exact ⟨_, rfl, q Hc c sm ⟨bs, hc, by rw [eps]; exact hpd⟩⟩
    · intro σ H Q Q' h z
      obtain ⟨v, e, z⟩ := z
      refine ⟨v, e, ?_⟩
      obtain ⟨v', e', p, ys, e1, e2, i, j, e3, e4, b, e5, z⟩ := z
      exact ⟨v', e', p, ys, e1, e2, i, j, e3, e4, b, e5, h _ _ z⟩
end Say
set_option Elab.async false
set_option linter.all false
set_option maxRecDepth 100000
set_option maxHeartbeats 1000000
/-! The way back of a number. -/
namespace Say
open PySem PySem.Spec PyProof.Rows L2
open SyBase SyLex SyWays SyBack
open LamX (Tabs ExtN TabB TabS)
variable {P : Program} {w : World} {K : PySem.W.Frag} {mg : Str → Option Value} {base : Heap}
structure WayC (K : PySem.W.Frag) (mg : Str → Option Value) (C : Addr) : Prop where
  gC : mg "Way" = some (.ref C)
  cl : Cls K C
  n1 : NoAttr K C "pieces"
  n2 : NoAttr K C "cost"
abbrev wayFs (l : Addr) (c : Nat) : List (Str × V) := [("pieces", .ref l), ("cost", .int (c : Nat))]
def WayAt (CY C CW : Addr) (H : Hp) (y : Addr) (ps : List Pc) (c : Nat) : Prop := ∃ dx l, H y = some (.ins CY dx (wayFs l c)) ∧ PcsAt C CW H l ps
def spWayInit (C : Addr) : Sp := fun vs H Q _ => ∃ (x dx l : Addr) (c : Nat), vs = [.ref x, .ref l, .int (c : Nat)] ∧ H x = some (.ins C dx []) ∧ ∀ H', H' x = some (.ins C dx (wayFs l c)) → But x H H' → Q .non H'
theorem scWayInit : FnScope ["self", "pieces", "cost"] ["self", "pieces", "cost"] (defScope sWayInit) := ⟨rfl, rfl, rfl, by decide +kernel, rfl, by decide +kernel, by decide +kernel⟩
theorem ok_wayInit {C f : Addr} {fd : FuncData} (F : Fun K "__init__" "Way.__init__" sWayInit f fd) (T : WayC K mg C) : FnOk P w K mg base CX0 1 f fd ["self", "pieces", "cost"] (spWayInit C) := by
  refine F.ok scWayInit (fun vs H Q E h => ?_) (fun cdv A outer s H vs Q E hr h => ?_)
  · obtain ⟨x, dx, l, c, rfl, _⟩ := h
    rfl
  · refine ⟨_, pss_cons (ps_fld (pv 0) (pv 1) rfl) (pss_one (ps_fld (pv 0) (pv 2) rfl)), ?_⟩
    obtain ⟨x, dx, l, c, rfl, hx, k⟩ := h
    refine ⟨_, rfl, _, rfl, x, C, dx, _, rfl, hx, T.cl, T.n1, by decide, ?_⟩
    refine ⟨_, rfl, _, rfl, x, C, dx, _, rfl, upd_same, T.cl, T.n2, by show 1 < 1000; decide, ?_⟩
    exact k _ upd_same ((But.refl x H).upd).upd
/-- what a place's pair holds -/
def pairAt (H : Hp) (x : V) : Int × Int := match x with
  | .ref t => match H t with
    | some (.tup [.int i, .int j]) => (i, j)
    | _ => (0, 0)
  | _ => (0, 0)
theorem pairAt_of {H : Hp} {t : Addr} {i j : Int} (h : H t = some (.tup [.int i, .int j])) : pairAt H (.ref t) = (i, j) := by
  unfold pairAt
  simp only
  rw [h]
theorem pairs_read {H : Hp} {β : Type} (f : β → Int × Int) : ∀ {ts : List Addr} {zs : List β}, Paired (fun t x => H t = some (.tup [.int (f x).1, .int (f x).2])) ts zs → (ts.map V.ref).map (pairAt H) = zs.map f
  | _, _, .nil => rfl
  | _, _, .cons h t => by rw [List.map_cons, List.map_cons, List.map_cons, pairs_read f t, pairAt_of h]
def PairT (g : Weights) (H : Hp) (t : Addr) (x : List Pc × Nat) : Prop := H t = some (.tup [.int (costP g 0 x.1 : Nat), .int (x.2 : Nat)])
def spWayBack (CY C CW CJ : Addr) : Sp := fun vs H Q _ => ∃ (i : Nat) (a j : Addr) (g : Weights) (s : Text), vs = [.int (i : Nat), .ref a, .ref j] ∧ GridAt C CW H a (grid g s) ∧ JoinsG CJ H j g ∧ s ≠ [] ∧ s.length ≤ 24 ∧ (W g s).length ≤ 1024 ∧ i < (W g s).length ∧
  ∀ H' y ps, Same H H' → WayAt CY C CW H' y ps (costP g 0 ps) → ps ∈ W g s → (backs g s)[i]? = some (toBack ps) → Q (.ref y) H'
theorem scWayBack : FnScope ["number", "pieces", "joins", "rows", "costs", "in_order", "cost", "rank"] ["number", "pieces", "joins"] (defScope sWayBack) := ⟨rfl, rfl, rfl, by decide +kernel, rfl, by decide +kernel, by decide +kernel⟩
theorem ok_wayBack {CY C CW CJ fY : Addr} {f : Addr} {fd fdY : FuncData} (F : Fun K "way_back" "way_back" sWayBack f fd) (G : Glob mg) (TY : WayC K mg CY) (MY : Mk K CY fY)
    (FY : FnOk P w K mg base CX0 1 fY fdY ["self", "pieces", "cost"] (spWayInit CY)) (bY : Binds K fdY ["self", "pieces", "cost"] [])
    (h1 : Has P w K mg base CX0 3 "edge" [] (spEdge C CW)) (h2 : Has P w K mg base CX0 2 "costs_from" ["piece", "followers", "rows", "joins"] (spCostsFrom C CW CJ))
    (h3 : Has P w K mg base CX0 4 "rows_of" ["pieces", "joins"] (spRowsOf C CW CJ)) (h4 : Has P w K mg base CX0 2 "pieces_of_rank" ["rank", "pieces", "rows"] (spPiecesOfRank C CW)) : FnOk P w K mg base CX0 5 f fd ["number", "pieces", "joins"] (spWayBack CY C CW CJ) := by
  obtain ⟨f1, fd1, G1, m1, k1, b1⟩ := h1
  obtain ⟨f2, fd2, G2, m2, k2, b2⟩ := h2
  obtain ⟨f3, fd3, G3, m3, k3, b3⟩ := h3
  obtain ⟨f4, fd4, G4, m4, k4, b4⟩ := h4
  refine F.ok scWayBack (fun vs H Q E h => ?_) (fun cdv A outer s H vs Q E hr h => ?_)
  · obtain ⟨i, a, j, g, s, rfl, _⟩ := h
    rfl
  · refine ⟨_, pss_cons (ps_set (i := 3) scWayBack.nd rfl (Or.inl rfl) (pe_call G3 hr rfl m3 k3 b3 .nil pass0 (pa_cons (pv 1) (pa_cons (pv 2) pa_nil))))
      (pss_cons (ps_set (i := 4) scWayBack.nd rfl (Or.inl rfl) (pe_call G2 (hr.mono (by decide)) rfl m2 k2 b2 .nil pass0 (pa_cons (pe_call0 G1 (hr.mono (by decide)) rfl m1 k1 b1 .nil pass0) (pa_cons (pe_ix ix_list (pv 1) pe_int (fun _ _ => rfl)) (pa_cons (pe_ix ix_list (pv 3) pe_int (fun _ _ => rfl)) (pa_cons (pv 2) pa_nil))))))
      (pss_cons (ps_set (i := 5) scWayBack.nd rfl (Or.inl rfl) (pe_callB cr_sortedPO rfl G.sorted boot_sorted (pa_cons
          (pe_lc (own := [("rank", 7), ("cost", 6)]) (g := gTup K 2 (gCons (gName 7) (gCons (gName 6) gNil))) (tt := tYes) (te := tTup (tCons (tVar 6) (tCons (tVar 7) tNil))) rfl scWayBack.nd (pi_enum rfl G.enumerate (pa_cons (pv 4) pa_nil))
            (blkOk_by (N := ["number", "pieces", "joins", "rows", "costs", "in_order", "cost", "rank"]) (sc := defScope sWayBack) (by decide +kernel))
            (fun _ _ _ _ _ => pg_tup rfl (pgs_cons (pg_name (i := 7) scWayBack.nd rfl (Or.inl rfl)) (pgs_cons (pg_name (i := 6) scWayBack.nd rfl (Or.inl rfl)) pgs_nil))) (fun _ _ _ _ _ => pts_nil)
            (fun _ _ _ _ _ => pe_tup (pa_cons (pv 6) (pa_cons (pv 7) pa_nil)))) pa_nil)))
      (pss_cons (ps_asg (pe_ix ix_list (pv 5) (pv 0) (fun _ _ => rfl)) (pg_tup rfl (pgs_cons (pg_name (i := 6) scWayBack.nd rfl (Or.inl rfl)) (pgs_cons (pg_name (i := 7) scWayBack.nd rfl (Or.inl rfl)) pgs_nil))))
      (pss_one (ps_ret (pe_make MY FY (hr.mono (by decide)) rfl TY.gC bY .nil pass0 (pa_cons (pe_call G4 (hr.mono (by decide)) rfl m4 k4 b4 .nil pass0 (pa_cons (pv 7) (pa_cons (pv 1) (pa_cons (pv 3) pa_nil)))) (pa_cons (pv 6) pa_nil)))))))), ?_⟩
    obtain ⟨i, a, j, g, s, rfl, hG, hJ, hne, hs24, hW, hi, q⟩ := h
    refine seq_asg (call_of (arg_is (ie_v rfl) (arg1 (ie_v rfl) ⟨a, j, g, s, rfl, hG, hJ, hs24, hW, fun H1 r s1 nr hR => ?_⟩)))
    obtain ⟨as, ha, hp⟩ := id hG
    obtain ⟨rl, hrl, hrp⟩ := id hR
    have hpos : 0 < s.length := by
      cases s with
      | nil => exact absurd rfl hne
      | cons x y => simp
    have elen : as.length = s.length := (Paired.length hp).trans (grid_length g s)
    obtain ⟨pa, epa, hpa⟩ : ∃ b, as[0]? = some b ∧ PcsAt C CW H b (pcsAt g s) := by
      obtain ⟨b, eb⟩ : ∃ b, as[0]? = some b := ⟨_, List.getElem?_eq_getElem (by omega)⟩
      obtain ⟨ps, e, h⟩ := paired_get hp eb
      rw [grid_get hpos] at e
      cases e
      exact ⟨b, eb, h⟩
    obtain ⟨ra, era, hra⟩ : ∃ b, rl[0]? = some b ∧ RowsN H1 b (rowsC g s) := by
      have el : rl.length = s.length + 1 := (Paired.length hrp).trans List.length_range
      obtain ⟨b, eb⟩ : ∃ b, rl[0]? = some b := ⟨_, List.getElem?_eq_getElem (by omega)⟩
      obtain ⟨k, e, h⟩ := paired_get hrp eb
      rw [List.getElem?_range (by omega)] at e
      cases e
      exact ⟨b, eb, h⟩
    have epe : pcsEnd g s = pcsAt g s := by unfold pcsEnd; rw [if_neg hne]
    have enx : nextOf g edgeP (pcsAt g s) (rowsC g s) = (W g s).map fun ps => costP g 0 ps := by rw [← epe, next_row, row_edge]
    refine seq_asg (call_of (arg_of (call_of ⟨rfl, fun H2 x s2 nx hx => ?_⟩)))
    have ix1 : (as.map V.ref)[0]? = some (V.ref pa) := by rw [List.getElem?_map, epa]; rfl
    have ix2 : (rl.map V.ref)[0]? = some (V.ref ra) := by rw [List.getElem?_map, era]; rfl
    have s12 := s1.trans s2
    refine arg_is (ie_ixL (i := 0) (ie_v rfl) ie_c (.inl (.inl (s12 _ _ ha))) ix1) (arg_is (ie_ixL (i := 0) (ie_v rfl) ie_c (.inl (.inl (s2 _ _ hrl))) ix2) (arg1 (ie_v rfl)
      ⟨x, pa, ra, j, edgeP, _, _, g, rfl, hx, hpa.same s12, hra.same s2, hJ.same s12, by rw [← epe]; exact ends_rows g s, by rw [enx, List.length_map]; omega, fun H3 c s3 nc hc => ?_⟩))
    rw [enx] at hc
    have s13 := s12.trans s3
    refine seq_asg (cb_of (args_one (lc_of ⟨_, rfl, c, _, rfl, .inl (.inl hc), fun D nD => ?_⟩)))
    refine lc_enum (xs := nV ((W g s).map fun ps => costP g 0 ps)) (fun k Hc => Same H3 Hc ∧ ∃ ts : List Addr, Hc D = some (.lst (ts.map V.ref)) ∧ Paired (fun t x => PairT g Hc t x) ts ((W g s).zipIdx.take k))
      ⟨same_upd nD, [], upd_same, .nil⟩ (fun k Hc _ z => .inl (.inl (z.1 _ _ hc))) ?_ ?_
    · rintro k y Hc Tt hy ⟨sm, ts, hD, hts⟩ nT
      unfold nV at hy
      rw [List.getElem?_map, List.getElem?_map] at hy
      cases ek : (W g s)[k]? with
      | none => rw [ek] at hy; cases hy
      | some ps =>
      rw [ek] at hy
      cases hy
      have ez : (W g s).zipIdx[k]? = some (ps, k) := by rw [List.getElem?_zipIdx, ek]; simp
      have hk : k < (W g s).length := (List.getElem?_eq_some_iff.mp ek).1
      have hl : ts.length ≤ k := by
        rw [Paired.length hts, List.length_take]
        exact Nat.min_le_left _ _
      have sT : Same Hc (upd Hc Tt (.tup [.int (k : Nat), .int (costP g 0 ps : Nat)])) := same_upd nT
      refine ⟨Tt, _, rfl, SqT.of upd_same, rfl, _, _, rfl, gname ⟨_, _, rfl, gname ⟨rfl, rfl, yes_of ?_⟩⟩⟩
      refine tup2_of (ie_v rfl) (ie_v rfl) fun p np => ?_
      have s5 := sT.trans (same_upd (o := .tup [V.int (costP g 0 ps : Nat), V.int (k : Nat)]) np)
      have hD5 := s5 _ _ hD
      have npD : p ≠ D := fun z => by
        have := sT _ _ hD
        rw [← z, np] at this
        cases this
      refine ⟨_, hD5, by rw [List.length_map]; exact big (by omega), same_mine (sm.trans s5) nD, ts ++ [p], by rw [upd_same, List.map_append]; rfl, ?_⟩
      rw [take_more ez]
      refine paired_snoc (show PairT g _ p (ps, k) from (upd_ne npD).trans upd_same) (paired_mono (fun t x h => ?_) hts)
      refine (upd_ne fun z => ?_).trans (s5 _ _ h)
      unfold PairT at h
      rw [z, hD] at h
      cases h
    · rintro Hc ⟨sm, ts, hD, hts⟩
      unfold nV at hts
      rw [List.length_map, List.length_map, List.take_of_length_le (by rw [List.length_zipIdx]; exact Nat.le_refl _)] at hts
      have s4 := s13.trans sm
      have hk : ∀ t ∈ ts, ∃ x ∈ (W g s).zipIdx, Hc t = some (.tup [.int (costP g 0 x.1 : Nat), .int (x.2 : Nat)]) := fun t ht => by
        obtain ⟨n, hn⟩ := List.mem_iff_getElem?.mp ht
        obtain ⟨x, ex, h⟩ := paired_get hts hn
        exact ⟨x, List.mem_of_getElem? ex, h⟩
      refine ⟨D, ts.map V.ref, pairAt Hc, rfl, .inl (.inl hD), fun y hy => ?_, fun ys l hsrt hstb nl => ?_⟩
      · obtain ⟨t, ht, rfl⟩ := List.mem_map.mp hy
        obtain ⟨x, _, h⟩ := hk t ht
        exact ⟨t, rfl, by rw [pairAt_of h]; exact h⟩
      · have sl : Same Hc (upd Hc l (.lst ys)) := same_upd nl
        have e1 : (ts.map V.ref).map (pairAt Hc) = (W g s).zipIdx.map fun x => ((costP g 0 x.1 : Int), (x.2 : Int)) := by
          exact pairs_read (fun x : List Pc × Nat => ((costP g 0 x.1 : Int), (x.2 : Int))) hts
        have hp1 : (ys.map (pairAt Hc)).Perm ((W g s).zipIdx.map fun x => ((costP g 0 x.1 : Int), (x.2 : Int))) := by
          rw [← e1]
          exact hstb.perm.map _
        have hs1 : (ys.map (pairAt Hc)).Pairwise fun x y => ltCR y x = false := by
          rw [List.pairwise_map]
          refine hsrt.imp fun {x y} h => ?_
          have := SrtO.lexB_no.mp h
          unfold ltCR
          simp only [Bool.or_eq_false_iff, decide_eq_false_iff_not, Bool.and_eq_false_iff]
          omega
        obtain ⟨rk, ps, hps, hord, hbk⟩ := backs_ord g s hp1 hs1 hi
        rw [List.getElem?_map] at hord
        cases ey : ys[i]? with
        | none => rw [ey] at hord; cases hord
        | some y =>
        rw [ey] at hord
        have hym : y ∈ ts.map V.ref := hstb.perm.mem_iff.mp (List.mem_of_getElem? ey)
        obtain ⟨t, ht, rfl⟩ := List.mem_map.mp hym
        obtain ⟨x, _, hx'⟩ := hk t ht
        have hord := Option.some.inj hord
        rw [pairAt_of hx'] at hord
        have hx2 : Hc t = some (.tup [.int (costP g 0 ps : Nat), .int (rk : Nat)]) := by
          rw [hx']
          have h1 := congrArg Prod.fst hord
          have h2 := congrArg Prod.snd hord
          simp only at h1 h2
          rw [h1, h2]
        refine seq_asgG ((ie_ixL (ie_v rfl) (ie_v rfl) (.inl (.inl upd_same)) ey) _ ⟨t, _, rfl, SqT.of (sl _ _ hx2), rfl, _, _, rfl, gname ⟨_, _, rfl, gname ⟨rfl, ?_⟩⟩⟩)
        have s5 := s4.trans sl
        have hR5 : Rows3 (upd Hc l (.lst ys)) r g s := by
          have s25 := ((s2.trans s3).trans sm).trans sl
          exact ⟨rl, s25 _ _ hrl, paired_mono (fun _ _ h => h.same s25) hrp⟩
        refine ret_of (make_of (arg_of (call_of (arg_is (ie_v rfl) (arg_is (ie_v rfl) (arg1 (ie_v rfl) ⟨rk, a, r, g, s, ps, rfl, hG.same s5, hR5, hs24, hps, fun H6 ch s6 hch => ?_⟩))))))
        refine arg1 (ie_v rfl) ?_
        intro z dz nz ndz nez
        refine ⟨z, dz, ch, costP g 0 ps, rfl, upd_same, fun H7 hz but => ⟨rfl, ?_⟩⟩
        have s7 := keep_made nz ndz but
        exact q H7 z ps ((s5.trans s6).trans s7) ⟨dz, ch, hz, hch.same s7⟩ (List.mem_of_getElem? hps) hbk
end Say
set_option Elab.async false
set_option linter.all false
set_option maxRecDepth 100000
set_option maxHeartbeats 1000000
/-! The keeper: what is told of a text. -/
namespace Say
open PySem PySem.Spec PyProof.Rows L2
open SyBase SyLex SyWays SyBack
open LamX (Tabs ExtN TabB TabS)
variable {P : Program} {w : World} {K : PySem.W.Frag} {mg : Str → Option Value} {base : Heap}
/-- a text of no sign, of too many -/
def BadLen (s : Text) : Prop := s = [] ∨ 24 < s.length
def spCheckSigns (K : PySem.W.Frag) (CT CN : Addr) : Sp := fun vs H Q E => ∃ (a : Addr) (s : Text), vs = [.ref a] ∧ SqL K H a (tI s) ∧ s.length ≤ 100000 ∧ (BadLen s → E (.ref CT) none H) ∧
  (¬ BadLen s → isText s = false → ∀ H', Same H H' → E (.ref CN) none H') ∧ (¬ BadLen s → isText s = true → ∀ H', Same H H' → Q .non H')
theorem scCheckSigns : FnScope ["s", "sign"] ["s"] (defScope sCheckSigns) := ⟨rfl, rfl, rfl, by decide +kernel, rfl, by decide +kernel, by decide +kernel⟩
theorem ok_checkSigns {CT CN : Addr} {f : Addr} {fd : FuncData} (F : Fun K "check_signs" "check_signs" sCheckSigns f fd) (G : Glob mg) (T1 : BareC K mg "WrongLength" CT) (T2 : BareC K mg "NoCharacter" CN)
    (h1 : Has P w K mg base CX0 1 "is_character" ["number"] spIsCharacter) : FnOk P w K mg base (L2.CX P w) 2 f fd ["s"] (spCheckSigns K CT CN) := by
  obtain ⟨f1, fd1, G1, m1, k1, b1⟩ := h1
  refine F.okX scCheckSigns (fun vs H Q E h => ?_) (fun cdv A outer s H vs Q E hr h => ?_)
  · obtain ⟨a, s, rfl, _⟩ := h
    rfl
  · refine ⟨_, pss_cons (ps_if (pt_not (pt_chain op_le op_le pe_int (pe_callB call_len_seq rfl G.len PySem.boot_len (pa_cons (pv 0) pa_nil)) (pe_num G.signs rfl)))
        (pss_one (ps_raise rfl (takes_of rfl rfl rfl rfl) (SayL.pmk_bare PySem.F.excBase_Exception T1.xC T1.gC T1.kC (raises_own T1.bC T1.tC) rfl))) pss_nil)
      (pss_one (ps_if (pt_not (pt_val (pe_callB (cr_all rfl) rfl G.all boot_all (pa_cons
          (pe_lc (own := [("sign", 1)]) (g := gName 1) (tt := tYes) rfl scCheckSigns.nd (pi_list (pv 0)) (blkOk_by (N := ["s", "sign"]) (sc := defScope sCheckSigns) (by decide +kernel)) (fun _ _ _ _ _ => pg_name (i := 1) scCheckSigns.nd rfl (Or.inl rfl)) (fun _ _ _ _ _ => pts_nil)
            (fun _ _ _ _ _ => pe_call G1 hr rfl m1 k1 b1 .nil pass0 (pa_cons (pv 1) pa_nil))) pa_nil))))
        (pss_one (ps_raise rfl (takes_of rfl rfl rfl rfl) (SayL.pmk_bare PySem.F.excBase_Exception T2.xC T2.gC T2.kC (raises_own T2.bC T2.tC) rfl))) pss_nil)), ?_⟩
    obtain ⟨a, s, rfl, hS, hsz, kb, kn, kq⟩ := h
    have hl : (tI s).length = s.length := by rw [List.length_map]
    refine seq_if (b := !(decide ((1 : Int) ≤ (s.length : Int)) && decide ((s.length : Int) ≤ 24))) (is_not (is_chain (x := 1) (y := (s.length : Int)) (z := 24) rfl rfl ie_c (ie_cast (ie_len (ie_v rfl) hS) (by rw [hl])) ie_c)) (fun e => ?_) (fun e => ?_)
    · refine kb ?_
      have e : (decide ((1 : Int) ≤ (s.length : Int)) && decide ((s.length : Int) ≤ 24)) = false := by simpa only [Bool.not_eq_true'] using e
      rw [Bool.and_eq_false_iff, decide_eq_false_iff_not, decide_eq_false_iff_not] at e
      rcases e with e | e
      · exact .inl (List.eq_nil_of_length_eq_zero (by omega))
      · exact .inr (by omega)
    · have e : (decide ((1 : Int) ≤ (s.length : Int)) && decide ((s.length : Int) ≤ 24)) = true := by simpa only [Bool.not_eq_false'] using e
      rw [Bool.and_eq_true, decide_eq_true_eq, decide_eq_true_eq] at e
      have hg : ¬ BadLen s := by
        rintro (z | z)
        · rw [z] at e
          simp at e
        · omega
      refine seq_next ?_
      refine ⟨_, rfl, a, rfl, ⟨_, hS⟩, fun D nD => ?_⟩
      refine lc_list (xs := tI s) (fun j Hc => Same H Hc ∧ Hc D = some (.lst ((s.take j).map fun c => .bl (isCh c)))) ⟨same_upd nD, upd_same⟩ (fun j Hc _ p => p.1.seq hS) ?_ ?_
      · rintro j x Hc hx ⟨sm3, hD⟩
        rw [List.getElem?_map] at hx
        cases ej : s[j]? with
        | none => rw [ej] at hx; cases hx
        | some c =>
          rw [ej] at hx
          cases hx
          refine gname ⟨rfl, yes_of ?_⟩
          refine ⟨_, rfl, c, rfl, _, hD, by rw [List.length_map, List.length_take]; exact big (by omega), same_mine sm3 nD, ?_⟩
          rw [upd_same, take_more ej, List.map_append]
          rfl
      · rintro Hc ⟨sm3, hD⟩
        rw [hl, List.take_length] at hD
        have eall : (s.map isCh).all id = isText s := by
          rw [List.all_map]
          unfold isText
          congr 1
          funext c
          exact isCh_eq c
        refine ⟨D, s.map isCh, rfl, .inl (.inl (by rw [hD, List.map_map]; rfl)), _, rfl, ?_⟩
        rw [eall]
        cases ea : isText s with
        | true => exact if_false_of rfl (kq hg ea Hc sm3)
        | false => exact if_true_of rfl (kn hg ea Hc sm3)
/-- the pieces of a text that isn't refused -/
def spPiecesFor (K : PySem.W.Frag) (CK CW CJ C CT CN CM : Addr) (T : List (Addr × Str)) : Sp := fun vs H Q E => ∃ (k a : Addr) (g : Weights) (s : Text), vs = [.ref k, .ref a] ∧ KeeperAt CK CW CJ H k g ∧ GoodL g.words ∧ SqL K H a (tI s) ∧ s.length ≤ 100000 ∧ Tabs T H ∧
  (BadLen s → ∀ H', ExtN H H' → Tabs T H' → E (.ref CT) none H') ∧ (¬ BadLen s → isText s = false → ∀ H', ExtN H H' → Tabs T H' → E (.ref CN) none H') ∧
  (¬ BadLen s → isText s = true → WAYS < manyBacks g s → ∀ H', ExtN H H' → Tabs T H' → E (.ref CM) none H') ∧
  (¬ BadLen s → isText s = true → ¬ WAYS < manyBacks g s → ∀ H' p, ExtN H H' → Tabs T H' → GridAt C CW H' p (grid g s) → Q (.ref p) H')
theorem scPiecesFor : FnScope ["self", "s", "pieces"] ["self", "s"] (defScope sPiecesFor) := ⟨rfl, rfl, rfl, by decide +kernel, rfl, by decide +kernel, by decide +kernel⟩
theorem KeeperAt.ext {CK CW CJ k : Addr} {H H' : Hp} {g : Weights} (h : KeeperAt CK CW CJ H k g) (s : ExtN H H') : KeeperAt CK CW CJ H' k g := by
  obtain ⟨dx, l, j, as, js, h1, h2, h3, h4, h5, h6, h7⟩ := h
  exact ⟨dx, l, j, as, js, s _ _ h1 (fun ps z => by cases z), h2, s _ _ h3 (fun ps z => by cases z), words_ext h4 s, h5.ext s, h6, h7⟩
theorem grid_small {g : Weights} {s : Text} (hg : GoodL g.words) (h24 : s.length ≤ 24) : ∀ k < s.length, (pcsAt g (s.drop k)).length ≤ 200000 := fun k hk => by
  have hn : s.drop k ≠ [] := by
    intro z
    have := congrArg List.length z
    rw [List.length_drop] at this
    simp at this
    omega
  have := pcs_small g hn (by rw [List.length_drop]; omega) hg.2
  have := hg.1
  omega
theorem ok_piecesFor {CK CW CJ C CT CN CM : Addr} {T : List (Addr × Str)} {f : Addr} {fd : FuncData} (F : Fun K "pieces_for" "Keeper.pieces_for" sPiecesFor f fd) (G : Glob mg) (TK : KeeperC K mg CK) (TJ : JoinsC K mg CJ) (T1 : BareC K mg "TooManyWays" CM)
    (h1 : Has P w K mg base (L2.CX P w) 2 "check_signs" ["s"] (spCheckSigns K CT CN)) (h2 : Has P w K mg base CX0 6 "pieces_of" ["lexicon", "alone", "signs"] (spPiecesOf C CW T)) (h3 : Has P w K mg base CX0 1 "how_many" ["pieces"] (spHowMany C CW)) :
    FnOk P w K mg base (L2.CX P w) 7 f fd ["self", "s"] (spPiecesFor K CK CW CJ C CT CN CM T) := by
  obtain ⟨f1, fd1, G1, m1, k1, b1⟩ := h1
  obtain ⟨f2, fd2, G2, m2, k2, b2⟩ := h2
  obtain ⟨f3, fd3, G3, m3, k3, b3⟩ := h3
  refine F.okX scPiecesFor (fun vs H Q E h => ?_) (fun cdv A outer s H vs Q E hr h => ?_)
  · obtain ⟨k, a, g, s, rfl, _⟩ := h
    rfl
  · refine ⟨_, pss_cons (ps_expr (pe_call (E := E) G1 (hr.mono (by decide)) rfl m1 k1 b1 .nil (passes_call (takes_of rfl rfl rfl rfl) (fun _ _ _ _ h => h)) (pa_cons (pv 1) pa_nil)))
      (pss_cons (ps_set (i := 2) scPiecesFor.nd rfl (Or.inl rfl) (pe_call G2 hr rfl m2 k2 b2 .nil pass0 (pa_cons (pe_fld (pv 0) rfl) (pa_cons (pe_fld (pe_fld (pv 0) rfl) rfl) (pa_cons (pe_callTy call_tuple_of rfl G.tuple boot_tuple (pa_cons (pv 1) pa_nil)) pa_nil)))))
      (pss_cons (ps_if (pt_cmpR op_gt (pe_call G3 (hr.mono (by decide)) rfl m3 k3 b3 .nil pass0 (pa_cons (pv 2) pa_nil)) (pe_num G.ways rfl) (nomark _))
        (pss_one (ps_raise rfl (takes_of rfl rfl rfl rfl) (SayL.pmk_bare PySem.F.excBase_Exception T1.xC T1.gC T1.kC (raises_own T1.bC T1.tC) rfl))) pss_nil)
      (pss_one (ps_ret (pv 2))))), ?_⟩
    obtain ⟨k, a, g, s, rfl, hK, hgood, hS, hsz, hT, e1, e2, e3, q⟩ := h
    refine ⟨_, rfl, a, s, rfl, hS, hsz, fun hb => e1 hb H (ExtN.refl H) hT, fun hb ht H' s' => e2 hb ht H' (ExtN.of s') (hT.ext s'), fun hb ht H1 s1 => ?_⟩
    have h24 : s.length ≤ 24 := by
      unfold BadLen at hb
      omega
    obtain ⟨dx, l, j, as, js, hk, _, hl, hw, ⟨dj, dd, hj1, hj2⟩, _, _⟩ := hK.ext (ExtN.of s1)
    refine seq_asg (call_of (arg_is (ie_fld (ie_v rfl) hk TK.cl TK.n1 rfl) (arg_is (ie_fld (ie_fld (ie_v rfl) hk TK.cl TK.n2 rfl) hj1 TJ.cl TJ.n1 rfl) (args_one (cb_of (arg1 (ie_v rfl) ⟨a, tI s, rfl, .inl ⟨s1.seq hS, fun t nt => ?_⟩⟩))))))
    have s2 : Same H1 (upd H1 t (.tup (tI s))) := same_upd nt
    refine ⟨l, t, as, g, s, rfl, s2 _ _ hl, paired_mono (fun _ _ h => h.same s2) hw, hgood, upd_same, h24, hT.ext (s1.trans s2), fun H3 p eN T3 hG => ?_⟩
    have eN' : ExtN H H3 := (ExtN.of (s1.trans s2)).trans eN
    refine seq_ifq (show (tTest (tOp (rI0 fun i j => V.bl (decide (j < i))) (tCall (spHowMany C CW) [] E0 (tCons (tVar 2) tNil)) (tC (.int 1024)))) _ _ _ from ?_)
    refine ⟨_, rfl, p, g, s, rfl, hG, h24, grid_small hgood h24, fun H4 s4 => ⟨_, _, rfl, rfl, _, rfl, ?_⟩⟩
    have eN4 : ExtN H H4 := eN'.trans (ExtN.of s4)
    by_cases hw : WAYS < manyBacks g s
    · have : (1024 : Nat) < manyBacks g s := hw
      exact if_true_of (decide_eq_true (by omega)) (e3 hb ht hw H4 eN4 (T3.ext s4))
    · have : ¬ (1024 : Nat) < manyBacks g s := hw
      exact if_false_of (decide_eq_false (by omega)) ⟨_, rfl, q hb ht hw H4 p eN4 (T3.ext s4) (hG.same s4)⟩
def spCountWays (K : PySem.W.Frag) (CK CW CJ C CT CN CM : Addr) (T : List (Addr × Str)) : Sp := fun vs H Q E => ∃ (k a : Addr) (g : Weights) (s : Text), vs = [.ref k, .ref a] ∧ KeeperAt CK CW CJ H k g ∧ GoodL g.words ∧ SqL K H a (tI s) ∧ s.length ≤ 100000 ∧ Tabs T H ∧
  (BadLen s → ∀ H', ExtN H H' → Tabs T H' → E (.ref CT) none H') ∧ (¬ BadLen s → isText s = false → ∀ H', ExtN H H' → Tabs T H' → E (.ref CN) none H') ∧
  (¬ BadLen s → isText s = true → WAYS < manyBacks g s → ∀ H', ExtN H H' → Tabs T H' → E (.ref CM) none H') ∧
  (¬ BadLen s → isText s = true → ¬ WAYS < manyBacks g s → ∀ H', ExtN H H' → Tabs T H' → Q (.int (manyBacks g s : Nat)) H')
theorem scCountWays : FnScope ["self", "s"] ["self", "s"] (defScope sCountWays) := ⟨rfl, rfl, rfl, by decide +kernel, rfl, by decide +kernel, by decide +kernel⟩
theorem ok_countWays {CK CW CJ C CT CN CM fP : Addr} {T : List (Addr × Str)} {f : Addr} {fd fdP : FuncData} (F : Fun K "count_ways" "Keeper.count_ways" sCountWays f fd) (TK : KeeperC K mg CK) (mP : Meth K CK "pieces_for" fP)
    (FP : FnOk P w K mg base (L2.CX P w) 7 fP fdP ["self", "s"] (spPiecesFor K CK CW CJ C CT CN CM T)) (bP : Binds K fdP ["self", "s"] []) (h3 : Has P w K mg base CX0 1 "how_many" ["pieces"] (spHowMany C CW)) :
    FnOk P w K mg base (L2.CX P w) 8 f fd ["self", "s"] (spCountWays K CK CW CJ C CT CN CM T) := by
  obtain ⟨f3, fd3, G3, m3, k3, b3⟩ := h3
  refine F.okX scCountWays (fun vs H Q E h => ?_) (fun cdv A outer s H vs Q E hr h => ?_)
  · obtain ⟨k, a, g, s, rfl, _⟩ := h
    rfl
  · refine ⟨_, pss_one (ps_ret (pe_call G3 (hr.mono (by decide)) rfl m3 k3 b3 .nil pass0 (pa_cons (pe_meth (E := E) (pv 0) TK.cl mP FP hr bP .nil (passes_call (takes_of rfl rfl rfl rfl) (fun _ _ _ _ h => h)) (pa_cons (pv 1) pa_nil)) pa_nil))), ?_⟩
    obtain ⟨k, a, g, s, rfl, hK, hgood, hS, hsz, hT, e1, e2, e3, q⟩ := h
    obtain ⟨dx, l, j, as, js, hk, _⟩ := id hK
    refine ret_of (call_of (args_one (meth_of ⟨_, rfl, k, dx, _, rfl, hk, rfl, arg1 (ie_v rfl) ⟨k, a, g, s, rfl, hK, hgood, hS, hsz, hT, e1, e2, e3, fun hb ht hw H1 p eN T1 hG => ?_⟩⟩)))
    have h24 : s.length ≤ 24 := by
      unfold BadLen at hb
      omega
    exact ⟨p, g, s, rfl, hG, h24, grid_small hgood h24, fun H2 s2 => q hb ht hw H2 (eN.trans (ExtN.of s2)) (T1.ext s2)⟩
def spNthWay (K : PySem.W.Frag) (CK CW CJ C CY CT CN CM CS : Addr) (T : List (Addr × Str)) : Sp := fun vs H Q E => ∃ (k a : Addr) (i : Nat) (g : Weights) (s : Text), vs = [.ref k, .int (i : Nat), .ref a] ∧ KeeperAt CK CW CJ H k g ∧ GoodL g.words ∧ SqL K H a (tI s) ∧ s.length ≤ 100000 ∧ Tabs T H ∧
  (BadLen s → ∀ H', ExtN H H' → Tabs T H' → E (.ref CT) none H') ∧ (¬ BadLen s → isText s = false → ∀ H', ExtN H H' → Tabs T H' → E (.ref CN) none H') ∧
  (¬ BadLen s → isText s = true → WAYS < manyBacks g s → ∀ H', ExtN H H' → Tabs T H' → E (.ref CM) none H') ∧
  (¬ BadLen s → isText s = true → ¬ WAYS < manyBacks g s → (backs g s)[i]? = none → ∀ H', ExtN H H' → Tabs T H' → E (.ref CS) none H') ∧
  (¬ BadLen s → isText s = true → ¬ WAYS < manyBacks g s → ∀ H' y ps, ExtN H H' → Tabs T H' → WayAt CY C CW H' y ps (costP g 0 ps) → ps ∈ W g s → (backs g s)[i]? = some (toBack ps) → Q (.ref y) H')
theorem scNthWay : FnScope ["self", "number", "s", "pieces"] ["self", "number", "s"] (defScope sNthWay) := ⟨rfl, rfl, rfl, by decide +kernel, rfl, by decide +kernel, by decide +kernel⟩
theorem ok_nthWay {CK CW CJ C CY CT CN CM CS fP : Addr} {T : List (Addr × Str)} {f : Addr} {fd fdP : FuncData} (F : Fun K "nth_way" "Keeper.nth_way" sNthWay f fd) (TK : KeeperC K mg CK) (T1 : BareC K mg "NoSuchWay" CS) (mP : Meth K CK "pieces_for" fP)
    (FP : FnOk P w K mg base (L2.CX P w) 7 fP fdP ["self", "s"] (spPiecesFor K CK CW CJ C CT CN CM T)) (bP : Binds K fdP ["self", "s"] []) (h3 : Has P w K mg base CX0 1 "how_many" ["pieces"] (spHowMany C CW))
    (h4 : Has P w K mg base CX0 5 "way_back" ["number", "pieces", "joins"] (spWayBack CY C CW CJ)) :
    FnOk P w K mg base (L2.CX P w) 8 f fd ["self", "number", "s"] (spNthWay K CK CW CJ C CY CT CN CM CS T) := by
  obtain ⟨f3, fd3, G3, m3, k3, b3⟩ := h3
  obtain ⟨f4, fd4, G4, m4, k4, b4⟩ := h4
  refine F.okX scNthWay (fun vs H Q E h => ?_) (fun cdv A outer s H vs Q E hr h => ?_)
  · obtain ⟨k, a, i, g, s, rfl, _⟩ := h
    rfl
  · refine ⟨_, pss_cons (ps_set (i := 3) scNthWay.nd rfl (Or.inl rfl) (pe_meth (E := E) (pv 0) TK.cl mP FP hr bP .nil (passes_call (takes_of rfl rfl rfl rfl) (fun _ _ _ _ h => h)) (pa_cons (pv 2) pa_nil)))
      (pss_cons (ps_if (pt_cmpR op_ge (pv 1) (pe_call G3 (hr.mono (by decide)) rfl m3 k3 b3 .nil pass0 (pa_cons (pv 3) pa_nil)) (nomark _))
        (pss_one (ps_raise rfl (takes_of rfl rfl rfl rfl) (SayL.pmk_bare PySem.F.excBase_Exception T1.xC T1.gC T1.kC (raises_own T1.bC T1.tC) rfl))) pss_nil)
      (pss_one (ps_ret (pe_call G4 (hr.mono (by decide)) rfl m4 k4 b4 .nil pass0 (pa_cons (pv 1) (pa_cons (pv 3) (pa_cons (pe_fld (pv 0) rfl) pa_nil))))))), ?_⟩
    obtain ⟨k, a, i, g, s, rfl, hK, hgood, hS, hsz, hT, e1, e2, e3, e4, q⟩ := h
    obtain ⟨dx, l, j, as, js, hk, _⟩ := id hK
    refine seq_asg (meth_of ⟨_, rfl, k, dx, _, rfl, hk, rfl, arg1 (ie_v rfl) ⟨k, a, g, s, rfl, hK, hgood, hS, hsz, hT, e1, e2, e3, fun hb ht hw H1 p eN T1 hG => ?_⟩⟩)
    have h24 : s.length ≤ 24 := by
      unfold BadLen at hb
      omega
    have hne : s ≠ [] := fun z => hb (.inl z)
    refine seq_ifq (show (tTest (tOp (rI0 fun i j => V.bl (decide (j ≤ i))) (tVar 1) (tCall (spHowMany C CW) [] E0 (tCons (tVar 3) tNil)))) _ _ _ from ?_)
    refine ⟨_, rfl, _, rfl, p, g, s, rfl, hG, h24, grid_small hgood h24, fun H2 s2 => ⟨_, _, rfl, rfl, _, rfl, ?_⟩⟩
    have eN2 := eN.trans (ExtN.of s2)
    have hm := many_W g s
    by_cases hi : manyBacks g s ≤ i
    · refine if_true_of (decide_eq_true (by omega)) (e4 hb ht hw ?_ H2 eN2 (T1.ext s2))
      exact List.getElem?_eq_none (by rw [backs_length, ← hm]; exact hi)
    · refine if_false_of (decide_eq_false (by omega)) ?_
      have hw2 : ¬ (1024 : Nat) < manyBacks g s := hw
      obtain ⟨dx2, l2, j2, as2, js2, hk2, _, _, _, hj2, hperm, hap⟩ := hK.ext eN2
      refine seq_next (ret_of (call_of (arg_is (ie_v rfl) (arg_is (ie_v rfl) (arg1 (ie_fld (ie_v rfl) hk2 TK.cl TK.n2 rfl) ⟨i, p, j2, g, s, rfl, hG.same s2, ⟨js2, hj2, fun x y => ?_⟩, hne, h24, by omega, by omega, fun H3 y ps s3 hY hps hbk => ?_⟩)))))
      · rw [join_is]
        exact joinCost_perm hperm hap x y
      · exact q hb ht hw H3 y ps (eN2.trans (ExtN.of s3)) ((T1.ext s2).ext s3) hY hps hbk
end Say
set_option Elab.async false
set_option linter.all false
set_option maxRecDepth 100000
set_option maxHeartbeats 1000000
/-! A way's numbers; its reading. -/
namespace Say
open PySem PySem.Spec PyProof.Rows L2
open SyBase SyLex SyWays SyBack
open LamX (Tabs ExtN TabB TabS)
variable {P : Program} {w : World} {K : PySem.W.Frag} {mg : Str → Option Value} {base : Heap}
abbrev zV (l : List Int) : List V := l.map V.int
def spNumbersOfWay (CY C CW : Addr) : Sp := fun vs H Q _ => ∃ (y : Addr) (ps : List Pc) (c : Nat), vs = [.ref y] ∧ WayAt CY C CW H y ps c ∧ ps.length ≤ 1000 ∧ ∀ H' l, Same H H' → H l = none → H' l = some (.lst (zV (((ps.length : Nat) : Int) :: ((c : Nat) : Int) :: wayL ps))) → Q (.ref l) H'
theorem scNumbersOfWay : FnScope ["way", "numbers", "piece"] ["way"] (defScope sNumbersOfWay) := ⟨rfl, rfl, rfl, by decide +kernel, rfl, by decide +kernel, by decide +kernel⟩
theorem wayL_length (ps : List Pc) : (wayL ps).length = 2 * ps.length := by
  induction ps with
  | nil => rfl
  | cons p ps ih =>
    unfold wayL at ih ⊢
    rw [List.flatMap_cons, List.length_append, ih]
    simp
    omega
theorem ok_numbersOfWay {CY C CW : Addr} {f : Addr} {fd : FuncData} (F : Fun K "numbers_of_way" "numbers_of_way" sNumbersOfWay f fd) (G : Glob mg) (TY : WayC K mg CY) (TP : PieceC K mg C) (TW : WordC K mg CW) : FnOk P w K mg base CX0 1 f fd ["way"] (spNumbersOfWay CY C CW) := by
  refine F.ok scNumbersOfWay (fun vs H Q E h => ?_) (fun cdv A outer s H vs Q E hr h => ?_)
  · obtain ⟨y, ps, c, rfl, _⟩ := h
    rfl
  · refine ⟨_, pss_cons (ps_set (i := 1) scNumbersOfWay.nd rfl (Or.inl rfl) (pe_lst (pa_cons (pe_callB call_len_seq rfl G.len PySem.boot_len (pa_cons (pe_fld (pv 0) rfl) pa_nil)) (pa_cons (pe_fld (pv 0) rfl) pa_nil))))
      (pss_cons (ps_for PassesOwn.never rfl (pi_list (pe_fld (pv 0) rfl)) (pg_name (i := 2) scNumbersOfWay.nd rfl (Or.inl rfl))
        (pss_cons (ps_expr (pe_bm PySem.F.plainAttrs_list PySem.F.slot_list_append PySem.F.type_list_append mt_append (pv 1) (pa_cons (pe_callB call_len_seq rfl G.len PySem.boot_len (pa_cons (pe_fld (pe_fld (pv 2) rfl) rfl) pa_nil)) pa_nil)))
        (pss_one (ps_expr (pe_bm PySem.F.plainAttrs_list PySem.F.slot_list_append PySem.F.type_list_append mt_append (pv 1) (pa_cons (pe_fld (pv 2) rfl) pa_nil))))))
      (pss_one (ps_ret (pv 1)))), ?_⟩
    obtain ⟨y, ps, c, rfl, ⟨dy, l, hy, as, hl, has⟩, hsz, q⟩ := h
    have el := Paired.length has
    refine seq_asg (lst_of (arg_is (ie_cast (ie_len (ie_fld (ie_v rfl) hy TY.cl TY.n1 rfl) (.inl (.inl hl))) (v' := .int ((ps.length : Nat) : Int)) (by rw [List.length_map, el])) (arg1 (ie_fld (ie_v rfl) hy TY.cl TY.n2 rfl) ⟨by show 2 ≤ sizeLine; decide, fun p np => ?_⟩)))
    have s1 : Same H (upd H p (.lst [.int ((ps.length : Nat) : Int), .int ((c : Nat) : Int)])) := same_upd np
    refine seq_of (for_of (list_of ?_))
    refine (ie_fld (ie_v rfl) (s1 _ _ hy) TY.cl TY.n1 rfl) _ ⟨l, rfl, ⟨_, .inl (.inl (s1 _ _ hl))⟩, ?_⟩
    refine for_list (xs := as.map V.ref) (fun i σ Hc => ∃ v2 : Option V, σ = [some (.ref y), some (.ref p), v2] ∧ Same H Hc ∧ Hc p = some (.lst (zV (((ps.length : Nat) : Int) :: ((c : Nat) : Int) :: wayL (ps.take i)))))
      ⟨none, rfl, s1, upd_same⟩ (fun i σ Hc _ ⟨_, _, sm, _⟩ => .inl (.inl (sm _ _ hl))) ?_ ?_
    · rintro i x σ Hc hx ⟨v2, rfl, sm, hp⟩
      rw [List.getElem?_map] at hx
      cases ei : as[i]? with
      | none => rw [ei] at hx; cases hx
      | some b =>
      rw [ei] at hx
      cases hx
      obtain ⟨pc, epc, hpc⟩ := paired_get has ei
      obtain ⟨dx, x, h1, dw, r, t, g1, g2, g3⟩ := hpc.same sm
      have hi : i < ps.length := (List.getElem?_eq_some_iff.mp epc).1
      have hwl := wayL_length (ps.take i)
      rw [List.length_take] at hwl
      refine gname ?_
      refine ⟨_, rfl, Or.inl ⟨rfl, _, .inl (.inl hp)⟩, ?_⟩
      refine args_one ((ie_lenT (ie_fld (ie_fld (ie_v rfl) h1 TP.cl TP.n2 rfl) g1 TW.cl TW.n1 rfl) (.inl (.inl g2))) _ ⟨p, _, _, rfl, rfl, hp, ?_, ?_⟩)
      · rw [List.length_map, List.length_cons, List.length_cons, hwl]
        exact big (by omega)
      have nb : p ≠ b := ne_of hp h1 (by intro z; cases z)
      refine ⟨_, rfl, Or.inl ⟨rfl, _, .inl (.inl upd_same)⟩, ?_⟩
      refine args_one ((ie_fld (ie_v rfl) ((upd_ne (Ne.symm nb)).trans h1) TP.cl TP.n1 rfl) _ ⟨p, _, _, rfl, rfl, upd_same, ?_, ?_⟩)
      · rw [List.length_append, List.length_map, List.length_cons, List.length_cons, hwl]
        exact big (by simp; omega)
      refine ⟨_, rfl, same_mine (same_mine sm np) np, ?_⟩
      rw [upd_same, take_more epc]
      unfold wayL
      rw [List.flatMap_append, List.flatMap_singleton]
      simp
    · rintro σ Hc ⟨v2, rfl, sm, hp⟩
      rw [List.length_map, el, List.take_length] at hp
      exact ⟨_, rfl, q Hc p sm np hp⟩
def spNumbersOfReading (CY C CW : Addr) : Sp := fun vs H Q _ => ∃ (y : Addr) (ps : List Pc) (c : Nat), vs = [.ref y] ∧ WayAt CY C CW H y ps c ∧ ps.length ≤ 1000 ∧ (∀ p ∈ ps, p.wd.reading.length ≤ 32) ∧ ∀ H' l, Same H H' → H l = none → H' l = some (.lst (zV ((((toBack ps).reading.length : Nat) : Int) :: zN (toBack ps).reading))) → Q (.ref l) H'
theorem scNumbersOfReading : FnScope ["way", "sounds", "piece"] ["way"] (defScope sNumbersOfReading) := ⟨rfl, rfl, rfl, by decide +kernel, rfl, by decide +kernel, by decide +kernel⟩
theorem tI_zN (t : Text) : tI t = zV (zN t) := by
  show _ = (t.map fun (c : Nat) => (c : Int)).map V.int
  rw [List.map_map]
  rfl
theorem read_short : ∀ {ps : List Pc}, (∀ p ∈ ps, p.wd.reading.length ≤ 32) → (ps.flatMap fun p => p.wd.reading).length ≤ 32 * ps.length
  | [], _ => Nat.le_refl _
  | p :: ps, h => by
    rw [List.flatMap_cons, List.length_append, List.length_cons]
    have h1 := h p List.mem_cons_self
    have h2 := read_short (ps := ps) fun q hq => h q (List.mem_cons_of_mem _ hq)
    omega
theorem ok_numbersOfReading {CY C CW : Addr} {f : Addr} {fd : FuncData} (F : Fun K "numbers_of_reading" "numbers_of_reading" sNumbersOfReading f fd) (G : Glob mg) (TY : WayC K mg CY) (TP : PieceC K mg C) (TW : WordC K mg CW) : FnOk P w K mg base CX0 1 f fd ["way"] (spNumbersOfReading CY C CW) := by
  refine F.ok scNumbersOfReading (fun vs H Q E h => ?_) (fun cdv A outer s H vs Q E hr h => ?_)
  · obtain ⟨y, ps, c, rfl, _⟩ := h
    rfl
  · refine ⟨_, pss_cons (ps_set (i := 1) scNumbersOfReading.nd rfl (Or.inl rfl) (pe_lst pa_nil))
      (pss_cons (ps_for PassesOwn.never rfl (pi_list (pe_fld (pv 0) rfl)) (pg_name (i := 2) scNumbersOfReading.nd rfl (Or.inl rfl))
        (pss_one (ps_expr (pe_bm PySem.F.plainAttrs_list PySem.F.slot_list_extend PySem.F.type_list_extend SayX.mt_extT (pv 1) (pa_cons (pe_fld (pe_fld (pv 2) rfl) rfl) pa_nil)))))
      (pss_one (ps_ret (pe_op op_cat (pe_lst (pa_cons (pe_callB call_len_seq rfl G.len PySem.boot_len (pa_cons (pv 1) pa_nil)) pa_nil)) (pv 1))))), ?_⟩
    obtain ⟨y, ps, c, rfl, ⟨dy, l, hy, as, hl, has⟩, hsz, hrd, q⟩ := h
    have el := Paired.length has
    have hall := read_short hrd
    refine seq_asg ⟨by show 0 ≤ sizeLine; decide, fun p np => ?_⟩
    have s1 : Same H (upd H p (.lst [])) := same_upd np
    refine seq_of (for_of (list_of ?_))
    refine (ie_fld (ie_v rfl) (s1 _ _ hy) TY.cl TY.n1 rfl) _ ⟨l, rfl, ⟨_, .inl (.inl (s1 _ _ hl))⟩, ?_⟩
    refine for_list (xs := as.map V.ref) (fun i σ Hc => ∃ v2 : Option V, σ = [some (.ref y), some (.ref p), v2] ∧ Same H Hc ∧ Hc p = some (.lst (tI ((ps.take i).flatMap fun p => p.wd.reading))))
      ⟨none, rfl, s1, upd_same⟩ (fun i σ Hc _ ⟨_, _, sm, _⟩ => .inl (.inl (sm _ _ hl))) ?_ ?_
    · rintro i x σ Hc hx ⟨v2, rfl, sm, hp⟩
      rw [List.getElem?_map] at hx
      cases ei : as[i]? with
      | none => rw [ei] at hx; cases hx
      | some b =>
      rw [ei] at hx
      cases hx
      obtain ⟨pc, epc, hpc⟩ := paired_get has ei
      obtain ⟨dx, x, h1, dw, r, t, g1, g2, g3⟩ := hpc.same sm
      have hle := flat_take_le (fun p : Pc => p.wd.reading) ps (i + 1)
      rw [take_more epc, List.flatMap_append, List.flatMap_singleton, List.length_append] at hle
      refine gname ?_
      refine ⟨_, rfl, Or.inl ⟨rfl, _, .inl (.inl hp)⟩, ?_⟩
      refine args_one ((ie_fld (ie_fld (ie_v rfl) h1 TP.cl TP.n2 rfl) g1 TW.cl TW.n1 rfl) _ ⟨p, r, _, _, rfl, rfl, hp, .inl (.inl g2), ?_, ?_⟩)
      · rw [List.length_map, List.length_map]
        exact Nat.le_of_lt (big (by omega))
      refine ⟨_, rfl, same_mine sm np, ?_⟩
      rw [upd_same, take_more epc, List.flatMap_append, List.flatMap_singleton]
      rw [show tI (((ps.take i).flatMap fun p => p.wd.reading) ++ pc.wd.reading) = tI ((ps.take i).flatMap fun p => p.wd.reading) ++ tI pc.wd.reading from List.map_append]
    · rintro σ Hc ⟨v2, rfl, sm, hp⟩
      rw [List.length_map, el, List.take_length] at hp
      dsimp only
      refine ret_of (op_of (lst_of (args_one ((ie_len (ie_v rfl) (.inl (.inl hp))) _ ⟨by show 1 ≤ sizeLine; decide, fun p2 n2 => ⟨_, rfl, ?_⟩⟩))))
      have np2 : p ≠ p2 := ne_of_none hp n2
      refine ⟨p2, p, _, _, rfl, rfl, upd_same, (upd_ne np2).trans hp, ?_, fun p3 n3 => ?_⟩
      · rw [List.length_map]
        exact Nat.le_of_lt (big (by rw [List.length_singleton]; omega))
      · refine q _ p3 ((sm.trans (same_upd n2)).trans (same_upd n3)) (not_there (sm.trans (same_upd n2)) n3) ?_
        rw [upd_same, tI_zN]
        unfold zN
        rw [List.length_map, List.length_map]
        rfl
end Say
set_option Elab.async false
set_option linter.all false
set_option maxRecDepth 100000
set_option maxHeartbeats 1000000
/-! A call's answer, where it isn't refused. -/
namespace Say
open PySem PySem.Spec PyProof.Rows L2
open SyBase SyLex SyWays SyBack
open LamX (Tabs ExtN TabB TabS)
variable {P : Program} {w : World} {K : PySem.W.Frag} {mg : Str → Option Value} {base : Heap}
def numB : BC → Nat
  | .begin_ => 1
  | .words _ => 2
  | .joins _ => 3
  | .many _ => 4
  | .nth _ _ => 5
  | .reading _ _ => 6
def iB : BC → Nat
  | .nth i _ => i
  | .reading i _ => i
  | _ => 0
def rowB : BC → List Int
  | .begin_ => []
  | .words t => zB t
  | .joins t => zB t
  | .many s => zN s
  | .nth _ s => zN s
  | .reading _ s => zN s
/-- the error classes -/
structure Errs where
  (CT CN CF CM CS : Addr)
/-- the error that tells l -/
def Refused (e : Errs) (H : Hp) (cls : Value) (d : Option Addr) (l : List Int) : Prop :=
  (cls = .ref e.CT ∧ d = none ∧ l = [-1]) ∨ (cls = .ref e.CN ∧ d = none ∧ l = [-3]) ∨ (cls = .ref e.CF ∧ ∃ (dd : Addr) (i n : Nat), d = some dd ∧ H dd = some (.xd (faultFs i n)) ∧ l = [-2, (i : Int), (n : Int)]) ∨ (cls = .ref e.CM ∧ d = none ∧ l = [-6]) ∨ (cls = .ref e.CS ∧ d = none ∧ l = [-5])
def GoodG (g : Weights) : Prop := g.words.length ≤ 100000 ∧ ∀ x ∈ g.words, GoodW x
theorem GoodG.l {g : Weights} (h : GoodG g) : GoodL g.words := ⟨h.1, fun x hx => (h.2 x hx).1⟩
theorem bI_zB (b : Bytes) : bI b = zV (zB b) := by
  show _ = (b.map fun c => (c.toNat : Int)).map V.int
  rw [List.map_map]
  rfl
def spAnswerOf (K : PySem.W.Frag) (CK CW CJ : Addr) (e : Errs) (T : List (Addr × Str)) : Sp := fun vs H Q E => ∃ (k a : Addr) (g : Weights) (b : BC), vs = [.ref k, .int (numB b : Nat), .int (iB b : Nat), .ref a] ∧ KeeperAt CK CW CJ H k g ∧ GoodG g ∧ SqL K H a (zV (rowB b)) ∧ Good b ∧ Tabs T H ∧
  (∀ H' cls d, ExtN H H' → Tabs T H' → (BackSpec.step g b).1 = g → Refused e H' cls d (toldB (BackSpec.step g b).2) → E cls d H') ∧
  (∀ H' l, FreshN H l → ExtBut k H H' → LexKeeps k H H' → Tabs T H' → KeeperAt CK CW CJ H' k (BackSpec.step g b).1 → GoodG (BackSpec.step g b).1 → H' l = some (.lst (zV (toldB (BackSpec.step g b).2))) → Q (.ref l) H')
theorem scAnswerOf : FnScope ["keeper", "number", "i", "row"] ["keeper", "number", "i", "row"] (defScope sAnswerOf) := ⟨rfl, rfl, rfl, by decide +kernel, rfl, by decide +kernel, by decide +kernel⟩
theorem num_no {x y : Nat} {i : Nat} {A R : TS} {D : Ends} {σ : L2.St} {H : Hp} (h : σ[i]? = some (some (.int (x : Nat)))) (n : decide (x = y) = false) (q : R D σ H) : tSeq (tIfS (tTest (tOp rEq (tVar i) (tC (.int (y : Nat))))) A tNext) R D σ H :=
  seq_if (b := decide (x = y)) (is_test (ie_eqN (ie_v h) ie_c)) (fun z => by rw [n] at z; cases z) (fun _ => seq_next q)
theorem num_yes {x y : Nat} {i : Nat} {A B R : TS} {D : Ends} {σ : L2.St} {H : Hp} (h : σ[i]? = some (some (.int (x : Nat)))) (n : decide (x = y) = true) (q : tSeq A R D σ H) : tSeq (tIfS (tTest (tOp rEq (tVar i) (tC (.int (y : Nat))))) A B) R D σ H :=
  seq_if (b := decide (x = y)) (is_test (ie_eqN (ie_v h) ie_c)) (fun _ => q) (fun z => by rw [n] at z; cases z)
theorem tabs_kept {T : List (Addr × Str)} {H H' : Hp} {k C dx : Addr} {fs : List (Str × V)} (t : Tabs T H) (hk : H k = some (.ins C dx fs)) (e : ExtBut k H H') (s : ∀ b ps, H b = some (.tbl ps) → H' b = some (.tbl ps)) : Tabs T H' := fun p hp => by
  obtain ⟨ps, h1, h2, h3⟩ := t p hp
  refine ⟨ps, s _ _ h1, h2, fun pos cv hc => ?_⟩
  obtain ⟨c, e1, e2⟩ := h3 pos cv hc
  exact ⟨c, e1, e c _ (fun z => by rw [z, hk] at e2; cases e2) e2 (fun ps => LamX.codeO_ne ps)⟩
theorem one_list {t : TE} {D : Ends} {R : TS} {σ : L2.St} {H : Hp} (q : t σ H fun x H1 => ∀ p, H1 p = none → D.rt (.ref p) (upd H1 p (.lst [x]))) (mono : ∀ Q Q' : VK, (∀ x H1, Q x H1 → Q' x H1) → t σ H Q → t σ H Q') : tSeq (tRet (tLst (tCons t tNil))) R D σ H :=
  mono _ _ (fun _ _ h => ⟨by show 1 ≤ sizeLine; decide, h⟩) q
theorem butN {k : Addr} {H H1 H2 : Hp} (a : ExtBut k H H1) (b : Same H1 H2) : ExtBut k H H2 := fun c o n e t => b c o (a c o n e t)
theorem ext_mut {k : Addr} {H H1 H2 : Hp} (a : ExtN H H1) (b : Same H1 H2) : ExtBut k H H2 := fun c o _ e t => b c o (a c o e t)
theorem fresh_but {CK CW CJ k p : Addr} {H H1 : Hp} {g : Weights} (e : ExtBut k H H1) (hk : KeeperAt CK CW CJ H1 k g) (np : H1 p = none) : FreshN H p := fun b o eb t z => by
  subst z
  by_cases hb : b = k
  · obtain ⟨dx0, l0, j0, as, js, h1, _⟩ := hk
    rw [← hb, np] at h1
    cases h1
  · rw [e b o hb eb t] at np
    cases np
theorem lexN {CK CW CJ k : Addr} {H H1 H2 : Hp} {g : Weights} (a : LexKeeps k H H1) (s : Same H1 H2) (hk : KeeperAt CK CW CJ H1 k g) : LexKeeps k H H2 := fun p o e t n C dx l j ek => by
  obtain ⟨dx0, l0, j0, as, js, h1, _⟩ := hk
  have h2 := s _ _ h1
  rw [h2] at ek
  exact a p o e t n C dx l j (by rw [h1]; exact ek)
theorem lex_ext {CK dx l j k : Addr} {H H1 H2 : Hp} (hk : H k = some (.ins CK dx (keepFs l j))) (a : ExtN H H1) (s : Same H1 H2) : LexKeeps k H H2 := lex_same (by rw [s _ _ (a _ _ hk fun ps z => by cases z), hk])
theorem KeeperAt.same {CK CW CJ k : Addr} {H H' : Hp} {g : Weights} (h : KeeperAt CK CW CJ H k g) (s : Same H H') : KeeperAt CK CW CJ H' k g := h.ext (ExtN.of s)
section
variable {g : Weights} {s : Text} {fn : List Back → SyAns.Ans}
theorem of_bad (h : BadLen s) : BackSpec.ofText g s fn = SyAns.says (-1) := if_pos h
theorem of_char (h : ¬ BadLen s) (c : isText s = false) : BackSpec.ofText g s fn = SyAns.says (-3) := by
  unfold BackSpec.ofText
  rw [if_neg (show ¬ (s = [] ∨ BackSpec.ROW < s.length) from h), if_pos c]
theorem of_more (h : ¬ BadLen s) (c : isText s = true) (m : WAYS < manyBacks g s) : BackSpec.ofText g s fn = SyAns.says (-6) := by
  unfold BackSpec.ofText
  rw [if_neg (show ¬ (s = [] ∨ BackSpec.ROW < s.length) from h), if_neg (by rw [c]; simp), if_pos m]
theorem of_fine (h : ¬ BadLen s) (c : isText s = true) (m : ¬ WAYS < manyBacks g s) : BackSpec.ofText g s fn = fn (backs g s) := by
  unfold BackSpec.ofText
  rw [if_neg (show ¬ (s = [] ∨ BackSpec.ROW < s.length) from h), if_neg (by rw [c]; simp), if_neg m]
end
theorem step_many (g : Weights) (s : Text) : BackSpec.step g (.many s) = (g, BackSpec.ofText g s fun (l : List Back) => SyAns.says (l.length : Int)) := rfl
theorem step_nth (g : Weights) (i : Nat) (s : Text) : BackSpec.step g (.nth i s) = (g, BackSpec.ofText g s fun (l : List Back) => match l[i]? with
    | some b => ⟨(b.way.length : Int), [(wayCost g b.way : Int)], BackSpec.flat b.way, []⟩
    | none => SyAns.says (-5)) := rfl
theorem step_reading (g : Weights) (i : Nat) (s : Text) : BackSpec.step g (.reading i s) = (g, BackSpec.ofText g s fun (l : List Back) => match l[i]? with
    | some b => SyAns.shows b.reading []
    | none => SyAns.says (-5)) := rfl
theorem ok_answerOf {CK CW CJ C CY fB fW fJ fC fN : Addr} {e : Errs} {T : List (Addr × Str)} {f : Addr} {fd fdB fdW fdJ fdC fdN : FuncData} (F : Fun K "answer_of" "answer_of" sAnswerOf f fd) (G : Glob mg) (TK : KeeperC K mg CK)
    (mB : Meth K CK "begin" fB) (FB : FnOk P w K mg base CX0 4 fB fdB ["self"] (spBegin CK CW CJ (.int 0))) (bB : Binds K fdB ["self"] [])
    (mW : Meth K CK "take_words" fW) (FW : FnOk P w K mg base (L2.CX P w) 7 fW fdW ["self", "t"] (spTakeWords K CK CW CJ e.CF e.CT T)) (bW : Binds K fdW ["self", "t"] [])
    (mJ : Meth K CK "take_joins" fJ) (FJ : FnOk P w K mg base (L2.CX P w) 6 fJ fdJ ["self", "t"] (spTakeJoins K CK CW CJ e.CF e.CT T)) (bJ : Binds K fdJ ["self", "t"] [])
    (mC : Meth K CK "count_ways" fC) (FC : FnOk P w K mg base (L2.CX P w) 8 fC fdC ["self", "s"] (spCountWays K CK CW CJ C e.CT e.CN e.CM T)) (bC : Binds K fdC ["self", "s"] [])
    (mN : Meth K CK "nth_way" fN) (FN : FnOk P w K mg base (L2.CX P w) 8 fN fdN ["self", "number", "s"] (spNthWay K CK CW CJ C CY e.CT e.CN e.CM e.CS T)) (bN : Binds K fdN ["self", "number", "s"] [])
    (h1 : Has P w K mg base CX0 1 "numbers_of_way" ["way"] (spNumbersOfWay CY C CW)) (h2 : Has P w K mg base CX0 1 "numbers_of_reading" ["way"] (spNumbersOfReading CY C CW)) :
    FnOk P w K mg base (L2.CX P w) 9 f fd ["keeper", "number", "i", "row"] (spAnswerOf K CK CW CJ e T) := by
  obtain ⟨f1, fd1, G1, m1, k1, b1⟩ := h1
  obtain ⟨f2, fd2, G2, m2, k2, b2⟩ := h2
  refine F.okX scAnswerOf (fun vs H Q E h => ?_) (fun cdv A outer s H vs Q E hr h => ?_)
  · obtain ⟨k, a, g, b, rfl, _⟩ := h
    rfl
  · refine ⟨_, pss_cons (ps_if (pt_cmpR op_eq (pv 1) (pe_num G.begin rfl) (nomark _)) (pss_one (ps_ret (pe_lst (pa_cons (pe_meth0 (pv 0) TK.cl mB FB (hr.mono (by decide)) bB .nil pass0) pa_nil)))) pss_nil)
      (pss_cons (ps_if (pt_cmpR op_eq (pv 1) (pe_num G.wordsC rfl) (nomark _)) (pss_one (ps_ret (pe_lst (pa_cons (pe_meth (E := E) (pv 0) TK.cl mW FW (hr.mono (by decide)) bW .nil (passes_call (takes_of rfl rfl rfl rfl) (fun _ _ _ _ h => h)) (pa_cons (pv 3) pa_nil)) pa_nil)))) pss_nil)
      (pss_cons (ps_if (pt_cmpR op_eq (pv 1) (pe_num G.joinsC rfl) (nomark _)) (pss_one (ps_ret (pe_lst (pa_cons (pe_meth (E := E) (pv 0) TK.cl mJ FJ (hr.mono (by decide)) bJ .nil (passes_call (takes_of rfl rfl rfl rfl) (fun _ _ _ _ h => h)) (pa_cons (pv 3) pa_nil)) pa_nil)))) pss_nil)
      (pss_cons (ps_if (pt_cmpR op_eq (pv 1) (pe_num G.manyC rfl) (nomark _)) (pss_one (ps_ret (pe_lst (pa_cons (pe_meth (E := E) (pv 0) TK.cl mC FC hr bC .nil (passes_call (takes_of rfl rfl rfl rfl) (fun _ _ _ _ h => h)) (pa_cons (pv 3) pa_nil)) pa_nil)))) pss_nil)
      (pss_cons (ps_if (pt_cmpR op_eq (pv 1) (pe_num G.nthC rfl) (nomark _)) (pss_one (ps_ret (pe_call G1 (hr.mono (by decide)) rfl m1 k1 b1 .nil pass0 (pa_cons (pe_meth (E := E) (pv 0) TK.cl mN FN hr bN .nil (passes_call (takes_of rfl rfl rfl rfl) (fun _ _ _ _ h => h)) (pa_cons (pv 2) (pa_cons (pv 3) pa_nil))) pa_nil)))) pss_nil)
      (pss_cons (ps_if (pt_cmpR op_eq (pv 1) (pe_num G.readingC rfl) (nomark _)) (pss_one (ps_ret (pe_call G2 (hr.mono (by decide)) rfl m2 k2 b2 .nil pass0 (pa_cons (pe_meth (E := E) (pv 0) TK.cl mN FN hr bN .nil (passes_call (takes_of rfl rfl rfl rfl) (fun _ _ _ _ h => h)) (pa_cons (pv 2) (pa_cons (pv 3) pa_nil))) pa_nil)))) pss_nil)
      (pss_one ps_dead)))))), ?_⟩
    obtain ⟨k, a, g, b, rfl, hK, hgood, hS, hb, hT, kE, kQ⟩ := h
    obtain ⟨dx, l0, j0, as0, js0, hk, _⟩ := id hK
    cases b with
    | begin_ =>
      refine num_yes (x := 1) (y := 1) rfl rfl ?_
      refine ⟨_, rfl, k, dx, _, rfl, hk, rfl, ?_⟩
      refine ⟨k, dx, _, rfl, hk, .inr ⟨_, _, rfl⟩, fun H1 eb lk ht hk1 => ⟨by show 1 ≤ sizeLine; decide, fun p np => ?_⟩⟩
      have s1 : Same H1 (upd H1 p (.lst [V.int 0])) := same_upd np
      exact kQ _ p (fresh_but eb hk1 np) (butN eb s1) (lexN lk s1 hk1) ((tabs_kept hT hk eb ht).ext s1) (hk1.same s1) ⟨Nat.zero_le _, fun x hx => by cases hx⟩ upd_same
    | words t =>
      have hS' : SqL K H a (bI t) := by rw [bI_zB]; exact hS
      have hb : t.length ≤ 29000 := hb
      refine num_no (x := 2) (y := 1) rfl rfl (num_yes (x := 2) (y := 2) rfl rfl ?_)
      have es : BackSpec.step g (.words t) = if BackSpec.BYTES < t.length then (g, SyAns.says (-1)) else (match readWords t with
        | .error (i, k) => (g, SyAns.tells (-2) (SyAns.ints [i, k]))
        | .ok L => ({ g with words := L }, SyAns.says (L.length : Int))) := rfl
      have hns : ¬ BackSpec.BYTES < t.length := by unfold BackSpec.BYTES; omega
      rw [if_neg hns] at es
      refine ⟨_, rfl, k, dx, _, rfl, hk, rfl, arg1 (ie_v rfl) ⟨k, a, g, t, rfl, hK, hS', by omega, hT, fun z => by omega, fun _ => ⟨fun i n er H' d sm nd hd => ?_, fun L eL H' eb lk hT' hK' => ?_⟩⟩⟩
      · rw [er] at es
        refine kE H' _ _ (ExtN.of sm) (hT.ext sm) (by rw [es]) ?_
        rw [es]
        exact .inr (.inr (.inl ⟨rfl, d, i, n, rfl, hd, told_fault i n⟩))
      · rw [eL] at es
        refine ⟨by show 1 ≤ sizeLine; decide, fun p np => ?_⟩
        have s1 : Same H' (upd H' p (.lst [V.int (L.length : Nat)])) := same_upd np
        have hgl := good_words eL
        refine kQ _ p (fresh_but eb hK' np) (butN eb s1) (lexN lk s1 hK') (hT'.ext s1) ?_ ?_ ?_
        · rw [es]
          exact hK'.same s1
        · rw [es]
          exact ⟨by show L.length ≤ 100000; omega, hgl.2⟩
        · rw [es, told_says]
          exact upd_same
    | joins t =>
      have hS' : SqL K H a (bI t) := by rw [bI_zB]; exact hS
      have hb : t.length ≤ 29000 := hb
      refine num_no (x := 3) (y := 1) rfl rfl (num_no (x := 3) (y := 2) rfl rfl (num_yes (x := 3) (y := 3) rfl rfl ?_))
      have es : BackSpec.step g (.joins t) = if BackSpec.BYTES < t.length then (g, SyAns.says (-1)) else (match readJoins t with
        | .error (i, k) => (g, SyAns.tells (-2) (SyAns.ints [i, k]))
        | .ok (a, l) => ({ g with alone := a, joins := l }, SyAns.says (l.length : Int))) := rfl
      have hns : ¬ BackSpec.BYTES < t.length := by unfold BackSpec.BYTES; omega
      rw [if_neg hns] at es
      refine ⟨_, rfl, k, dx, _, rfl, hk, rfl, arg1 (ie_v rfl) ⟨k, a, g, t, rfl, hK, hS', by omega, hT, fun z => by omega, fun _ => ⟨fun i n er H' d sm nd hd => ?_, fun n J eL H' eb lk hT' hK' => ?_⟩⟩⟩
      · rw [er] at es
        refine kE H' _ _ (ExtN.of sm) (hT.ext sm) (by rw [es]) ?_
        rw [es]
        exact .inr (.inr (.inl ⟨rfl, d, i, n, rfl, hd, told_fault i n⟩))
      · rw [eL] at es
        refine ⟨by show 1 ≤ sizeLine; decide, fun p np => ?_⟩
        have s1 : Same H' (upd H' p (.lst [V.int (J.length : Nat)])) := same_upd np
        refine kQ _ p (fresh_but eb hK' np) (butN eb s1) (lexN lk s1 hK') (hT'.ext s1) ?_ ?_ ?_
        · rw [es]
          exact hK'.same s1
        · rw [es]
          exact hgood
        · rw [es, told_says]
          exact upd_same
    | many s =>
      have hS' : SqL K H a (tI s) := by rw [tI_zN]; exact hS
      have hb2 : s.length ≤ 2000 := hb.1
      have es := step_many g s
      have eg : (BackSpec.step g (.many s)).1 = g := by rw [es]
      refine num_no (x := 4) (y := 1) rfl rfl (num_no (x := 4) (y := 2) rfl rfl (num_no (x := 4) (y := 3) rfl rfl (num_yes (x := 4) (y := 4) rfl rfl ?_)))
      refine ⟨_, rfl, k, dx, _, rfl, hk, rfl, arg1 (ie_v rfl) ⟨k, a, g, s, rfl, hK, hgood.l, hS', by omega, hT, fun z H' eN T' => ?_, fun z c H' eN T' => ?_, fun z c m H' eN T' => ?_, fun z c m H' eN T' => ?_⟩⟩
      · refine kE H' _ _ eN T' eg (.inl ⟨rfl, rfl, ?_⟩)
        rw [es, of_bad z, told_says]
      · refine kE H' _ _ eN T' eg (.inr (.inl ⟨rfl, rfl, ?_⟩))
        rw [es, of_char z c, told_says]
      · refine kE H' _ _ eN T' eg (.inr (.inr (.inr (.inl ⟨rfl, rfl, ?_⟩))))
        rw [es, of_more z c m, told_says]
      · refine ⟨by show 1 ≤ sizeLine; decide, fun p np => ?_⟩
        have s1 : Same H' (upd H' p (.lst [V.int (manyBacks g s : Nat)])) := same_upd np
        refine kQ _ p (FreshN.of eN np) (ext_mut eN s1) (lex_ext hk eN s1) (T'.ext s1) ?_ ?_ ?_
        · rw [eg]
          exact (hK.ext eN).same s1
        · rw [eg]
          exact hgood
        · rw [es, of_fine z c m, told_says, backs_length, ← many_W]
          exact upd_same
    | nth i s =>
      have hS' : SqL K H a (tI s) := by rw [tI_zN]; exact hS
      have hb2 : s.length ≤ 2000 := hb.2.1
      have es := step_nth g i s
      have eg : (BackSpec.step g (.nth i s)).1 = g := by rw [es]
      refine num_no (x := 5) (y := 1) rfl rfl (num_no (x := 5) (y := 2) rfl rfl (num_no (x := 5) (y := 3) rfl rfl (num_no (x := 5) (y := 4) rfl rfl (num_yes (x := 5) (y := 5) rfl rfl ?_))))
      refine ret_of (call_of (args_one (meth_of ⟨_, rfl, k, dx, _, rfl, hk, rfl, arg_is (ie_v rfl) (arg1 (ie_v rfl) ⟨k, a, i, g, s, rfl, hK, hgood.l, hS', by omega, hT, fun z H' eN T' => ?_, fun z c H' eN T' => ?_, fun z c m H' eN T' => ?_, fun z c m n H' eN T' => ?_, fun z c m H' y ps eN T' hY hps hbk => ?_⟩)⟩)))
      · refine kE H' _ _ eN T' eg (.inl ⟨rfl, rfl, ?_⟩)
        rw [es, of_bad z, told_says]
      · refine kE H' _ _ eN T' eg (.inr (.inl ⟨rfl, rfl, ?_⟩))
        rw [es, of_char z c, told_says]
      · refine kE H' _ _ eN T' eg (.inr (.inr (.inr (.inl ⟨rfl, rfl, ?_⟩))))
        rw [es, of_more z c m, told_says]
      · refine kE H' _ _ eN T' eg (.inr (.inr (.inr (.inr ⟨rfl, rfl, ?_⟩))))
        rw [es, of_fine z c m, n]
        exact told_says _
      · have hw := W_good hgood.2 _ s (Nat.le_refl _) ps hps
        have h24 : s.length ≤ 24 := by
          unfold BadLen at z
          omega
        refine ⟨y, ps, _, rfl, hY, by omega, fun H2 l s2 nl hl => ?_⟩
        refine kQ _ l (FreshN.of eN nl) (ext_mut eN s2) (lex_ext hk eN s2) (T'.ext s2) ?_ ?_ ?_
        · rw [eg]
          exact (hK.ext eN).same s2
        · rw [eg]
          exact hgood
        · rw [es, of_fine z c m, hbk]
          have := told_way (g := g) (t := s) hps fun p hp => (hw.2 p hp).2
          show H2 l = some (.lst (zV (toldB ⟨((toBack ps).way.length : Int), [(wayCost g (toBack ps).way : Int)], BackSpec.flat (toBack ps).way, []⟩)))
          rw [this]
          exact hl
    | reading i s =>
      have hS' : SqL K H a (tI s) := by rw [tI_zN]; exact hS
      have hb2 : s.length ≤ 2000 := hb.2.1
      have es := step_reading g i s
      have eg : (BackSpec.step g (.reading i s)).1 = g := by rw [es]
      refine num_no (x := 6) (y := 1) rfl rfl (num_no (x := 6) (y := 2) rfl rfl (num_no (x := 6) (y := 3) rfl rfl (num_no (x := 6) (y := 4) rfl rfl (num_no (x := 6) (y := 5) rfl rfl (num_yes (x := 6) (y := 6) rfl rfl ?_)))))
      refine ret_of (call_of (args_one (meth_of ⟨_, rfl, k, dx, _, rfl, hk, rfl, arg_is (ie_v rfl) (arg1 (ie_v rfl) ⟨k, a, i, g, s, rfl, hK, hgood.l, hS', by omega, hT, fun z H' eN T' => ?_, fun z c H' eN T' => ?_, fun z c m H' eN T' => ?_, fun z c m n H' eN T' => ?_, fun z c m H' y ps eN T' hY hps hbk => ?_⟩)⟩)))
      · refine kE H' _ _ eN T' eg (.inl ⟨rfl, rfl, ?_⟩)
        rw [es, of_bad z, told_says]
      · refine kE H' _ _ eN T' eg (.inr (.inl ⟨rfl, rfl, ?_⟩))
        rw [es, of_char z c, told_says]
      · refine kE H' _ _ eN T' eg (.inr (.inr (.inr (.inl ⟨rfl, rfl, ?_⟩))))
        rw [es, of_more z c m, told_says]
      · refine kE H' _ _ eN T' eg (.inr (.inr (.inr (.inr ⟨rfl, rfl, ?_⟩))))
        rw [es, of_fine z c m, n]
        exact told_says _
      · have hw := W_good hgood.2 _ s (Nat.le_refl _) ps hps
        have h24 : s.length ≤ 24 := by
          unfold BadLen at z
          omega
        refine ⟨y, ps, _, rfl, hY, by omega, fun p hp => (hw.2 p hp).1, fun H2 l s2 nl hl => ?_⟩
        refine kQ _ l (FreshN.of eN nl) (ext_mut eN s2) (lex_ext hk eN s2) (T'.ext s2) ?_ ?_ ?_
        · rw [eg]
          exact (hK.ext eN).same s2
        · rw [eg]
          exact hgood
        · rw [es, of_fine z c m, hbk]
          show H2 l = some (.lst (zV (toldB (SyAns.shows (toBack ps).reading []))))
          rw [told_reading]
          exact hl
end Say
set_option Elab.async false
set_option linter.all false
set_option maxRecDepth 100000
set_option maxHeartbeats 1000000
/-! A call's answer, refused or not. -/
namespace Say
open PySem PySem.Spec PyProof.Rows L2
open SyBase SyLex SyWays SyBack
open LamX (Tabs ExtN TabB TabS)
variable {P : Program} {w : World} {K : PySem.W.Frag} {mg : Str → Option Value} {base : Heap}
structure ErrsC (K : PySem.W.Frag) (mg : Str → Option Value) (e : Errs) : Prop where
  gT : mg "WrongLength" = some (.ref e.CT)
  gN : mg "NoCharacter" = some (.ref e.CN)
  gF : mg "Faulty" = some (.ref e.CF)
  gM : mg "TooManyWays" = some (.ref e.CM)
  gS : mg "NoSuchWay" = some (.ref e.CS)
  tt : PySem.W.exmOne K (.ref e.CT) (.ref e.CT) = some true
  nt : PySem.W.exmOne K (.ref e.CN) (.ref e.CT) = some false
  nn : PySem.W.exmOne K (.ref e.CN) (.ref e.CN) = some true
  ft : PySem.W.exmOne K (.ref e.CF) (.ref e.CT) = some false
  fn : PySem.W.exmOne K (.ref e.CF) (.ref e.CN) = some false
  ff : PySem.W.exmOne K (.ref e.CF) (.ref e.CF) = some true
  mt : PySem.W.exmOne K (.ref e.CM) (.ref e.CT) = some false
  mn : PySem.W.exmOne K (.ref e.CM) (.ref e.CN) = some false
  mf : PySem.W.exmOne K (.ref e.CM) (.ref e.CF) = some false
  mm : PySem.W.exmOne K (.ref e.CM) (.ref e.CM) = some true
  st : PySem.W.exmOne K (.ref e.CS) (.ref e.CT) = some false
  sn : PySem.W.exmOne K (.ref e.CS) (.ref e.CN) = some false
  sf : PySem.W.exmOne K (.ref e.CS) (.ref e.CF) = some false
  sm : PySem.W.exmOne K (.ref e.CS) (.ref e.CM) = some false
  ss : PySem.W.exmOne K (.ref e.CS) (.ref e.CS) = some true
  xf : XfC K e.CF
  nLine : PySem.W.findIn K (.ref e.CF) "line" = some none
  nKind : PySem.W.findIn K (.ref e.CF) "kind" = some none
def spAnswerOr (K : PySem.W.Frag) (CK CW CJ : Addr) (T : List (Addr × Str)) : Sp := fun vs H Q _ => ∃ (k a : Addr) (g : Weights) (b : BC), vs = [.ref k, .int (numB b : Nat), .int (iB b : Nat), .ref a] ∧ KeeperAt CK CW CJ H k g ∧ GoodG g ∧ SqL K H a (zV (rowB b)) ∧ Good b ∧ Tabs T H ∧
  (∀ H' l, FreshN H l → ExtBut k H H' → LexKeeps k H H' → Tabs T H' → KeeperAt CK CW CJ H' k (BackSpec.step g b).1 → GoodG (BackSpec.step g b).1 → H' l = some (.lst (zV (toldB (BackSpec.step g b).2))) → Q (.ref l) H')
theorem scAnswerOr : FnScope ["keeper", "number", "i", "row", "fault"] ["keeper", "number", "i", "row"] (defScope sAnswerOrRefusal) := ⟨rfl, rfl, rfl, by decide +kernel, rfl, by decide +kernel, by decide +kernel⟩
theorem ret_one {t : TE} {D : Ends} {σ : L2.St} {H : Hp} {x : V} (h : IsE t σ H x) (q : ∀ p, H p = none → D.rt (.ref p) (upd H p (.lst [x]))) : tRet (tLst (tCons t tNil)) D σ H := h _ ⟨by show 1 ≤ sizeLine; decide, q⟩
theorem ok_answerOr {CK CW CJ : Addr} {e : Errs} {T : List (Addr × Str)} {f : Addr} {fd : FuncData} (F : Fun K "answer_or_refusal" "answer_or_refusal" sAnswerOrRefusal f fd) (TE : ErrsC K mg e)
    (h1 : Has P w K mg base (L2.CX P w) 9 "answer_of" ["keeper", "number", "i", "row"] (spAnswerOf K CK CW CJ e T)) : FnOk P w K mg base CX0 10 f fd ["keeper", "number", "i", "row"] (spAnswerOr K CK CW CJ T) := by
  obtain ⟨f1, fd1, G1, m1, k1, b1⟩ := h1
  refine F.ok scAnswerOr (fun vs H Q E h => ?_) (fun cdv A outer s H vs Q E hr h => ?_)
  · obtain ⟨k, a, g, b, rfl, _⟩ := h
    rfl
  · refine ⟨_, pss_one (SayL.ps_try_mix (tb := fun W => tRet (tCallS (spAnswerOf K CK CW CJ e T) (WE W) (tCons (tVar 0) (tCons (tVar 1) (tCons (tVar 2) (tCons (tVar 3) tNil))))))
      (l := [.only (.ref e.CT) (fun _ _ _ => tRet (tLst (tCons (tUn (rU fun i => .int (-i)) (tC (.int 1))) tNil))), .only (.ref e.CN) (fun _ _ _ => tRet (tLst (tCons (tUn (rU fun i => .int (-i)) (tC (.int 3))) tNil))),
        .named (.ref e.CF) 4 (fun a cls d => tRet (tLst (tCons (tUn (rU fun i => .int (-i)) (tC (.int 2))) (tCons (tXf a cls d e.CF "line" (tVar 4)) (tCons (tXf a cls d e.CF "kind" (tVar 4)) tNil))))),
        .only (.ref e.CM) (fun _ _ _ => tRet (tLst (tCons (tUn (rU fun i => .int (-i)) (tC (.int 6))) tNil))), .only (.ref e.CS) (fun _ _ _ => tRet (tLst (tCons (tUn (rU fun i => .int (-i)) (tC (.int 5))) tNil)))])
      (Wout := fun _ _ _ _ => False) rfl rfl takes0
      (fun W pn xe tk _ => pss_one (ps_ret (pe_callS G1 hr rfl m1 k1 b1 (fun σ => passAt tk σ) (pa_cons (pv 0) (pa_cons (pv 1) (pa_cons (pv 2) (pa_cons (pv 3) pa_nil)))))))
      (.only ⟨rfl, by decide, .inl TE.gT⟩ (fun _ _ _ _ _ _ _ => pss_one (ps_ret (pe_lst (pa_cons (pe_un un_neg pe_int) pa_nil))))
      (.only ⟨rfl, by decide, .inl TE.gN⟩ (fun _ _ _ _ _ _ _ => pss_one (ps_ret (pe_lst (pa_cons (pe_un un_neg pe_int) pa_nil))))
      (.named scAnswerOr.nd rfl rfl ⟨rfl, by decide, .inl TE.gF⟩ (fun a oe cls d pn hz hf => pss_one (ps_ret (pe_lst (pa_cons (pe_un un_neg pe_int) (pa_cons (pe_xf TE.xf TE.nLine hz hf (pv 4)) (pa_cons (pe_xf TE.xf TE.nKind hz hf (pv 4)) pa_nil))))))
      (.only ⟨rfl, by decide, .inl TE.gM⟩ (fun _ _ _ _ _ _ _ => pss_one (ps_ret (pe_lst (pa_cons (pe_un un_neg pe_int) pa_nil))))
      (.only ⟨rfl, by decide, .inl TE.gS⟩ (fun _ _ _ _ _ _ _ => pss_one (ps_ret (pe_lst (pa_cons (pe_un un_neg pe_int) pa_nil))))
      .nil)))))), ?_⟩
    obtain ⟨k, a, g, b, rfl, hK, hgood, hS, hb, hT, q⟩ := h
    refine ret_of ?_
    show (tCons (tVar 0) (tCons (tVar 1) (tCons (tVar 2) (tCons (tVar 3) tNil)))) _ _ _
    refine arg_is (ie_v rfl) (arg_is (ie_v rfl) (arg_is (ie_v rfl) (arg1 (ie_v rfl) ⟨k, a, g, b, rfl, hK, hgood, hS, hb, hT, fun H1 cls d eN T1 eg hre => ?_, q⟩)))
    obtain ⟨dx0, l0, j0, as0, js0, hk0, _⟩ := id hK
    have done : ∀ (l : List Int) (p : Addr) (H2 : Hp), H1 p = none → Same H1 H2 → H2 p = some (.lst (zV l)) → toldB (BackSpec.step g b).2 = l → Q (.ref p) H2 := fun l p H2 np s2 hp el => by
      refine q H2 p (FreshN.of eN np) (ext_mut eN s2) (lex_ext hk0 eN s2) (T1.ext s2) ?_ ?_ ?_
      · rw [eg]
        exact (hK.ext eN).same s2
      · rw [eg]
        exact hgood
      · rw [el]
        exact hp
    rcases hre with ⟨rfl, rfl, hl⟩ | ⟨rfl, rfl, hl⟩ | ⟨rfl, dd, i, n, rfl, hd, hl⟩ | ⟨rfl, rfl, hl⟩ | ⟨rfl, rfl, hl⟩
    · exact ⟨true, TE.tt, fun _ a0 na => ret_one (neg_is ie_c) fun p np => done [-1] p _ np (same_upd np) upd_same hl, fun z => nomatch z⟩
    · exact ⟨false, TE.nt, fun z => (nomatch z), fun _ => ⟨true, TE.nn, fun _ a0 na => ret_one (neg_is ie_c) fun p np => done [-3] p _ np (same_upd np) upd_same hl, fun z => (nomatch z)⟩⟩
    · refine ⟨false, TE.ft, fun z => (nomatch z), fun _ => ⟨false, TE.fn, fun z => (nomatch z), fun _ => ⟨true, TE.ff, fun _ a0 na => ?_, fun z => (nomatch z)⟩⟩⟩
      refine ret_of (lst_of (arg_is (neg_is ie_c) ⟨_, rfl, rfl, rfl, dd, _, _, rfl, hd, rfl, ⟨_, rfl, rfl, rfl, dd, _, _, rfl, hd, rfl, ⟨by show 3 ≤ sizeLine; decide, fun p np => ?_⟩⟩⟩))
      exact done [-2, (i : Int), (n : Int)] p _ np (same_upd np) upd_same hl
    · exact ⟨false, TE.mt, fun z => (nomatch z), fun _ => ⟨false, TE.mn, fun z => (nomatch z), fun _ => ⟨false, TE.mf, fun z => (nomatch z), fun _ => ⟨true, TE.mm, fun _ a0 na => ret_one (neg_is ie_c) fun p np => done [-6] p _ np (same_upd np) upd_same hl, fun z => (nomatch z)⟩⟩⟩⟩
    · exact ⟨false, TE.st, fun z => (nomatch z), fun _ => ⟨false, TE.sn, fun z => (nomatch z), fun _ => ⟨false, TE.sf, fun z => (nomatch z), fun _ => ⟨false, TE.sm, fun z => (nomatch z), fun _ => ⟨true, TE.ss, fun _ a0 na => ret_one (neg_is ie_c) fun p np => done [-5] p _ np (same_upd np) upd_same hl, fun z => (nomatch z)⟩⟩⟩⟩⟩
end Say
set_option Elab.async false
set_option linter.all false
set_option maxRecDepth 100000
set_option maxHeartbeats 1000000
/-! A call read off the list. -/
namespace Say
open PySem PySem.Spec PyProof.Rows L2
open SyBase SyLex SyWays SyBack
open LamX (Tabs ExtN TabB TabS)
variable {P : Program} {w : World} {K : PySem.W.Frag} {mg : Str → Option Value} {base : Heap}
def spCallAt (K : PySem.W.Frag) : Sp := fun vs H Q _ => ∃ (c : Addr) (l : List Int) (k : Nat) (b : BC) (rest : List Int), vs = [.ref c, .int (k : Nat)] ∧ SqL K H c (zV l) ∧ l.drop k = enc b ++ rest ∧
  ∀ H' t a, Same H H' → H' t = some (.tup [.int (numB b : Nat), .int (iB b : Nat), .ref a, .int ((k + (enc b).length : Nat) : Int)]) → H' a = some (.lst (zV (rowB b))) → Q (.ref t) H'
theorem scCallAt : FnScope ["calls", "place", "number", "i", "start", "end"] ["calls", "place"] (defScope sCallAt) := ⟨rfl, rfl, rfl, by decide +kernel, rfl, by decide +kernel, by decide +kernel⟩
theorem tup_of {t : TA} {σ : L2.St} {H : Hp} {Q : VK} (q : t σ H fun xs H1 => xs.length ≤ sizeLine ∧ ∀ p, H1 p = none → Q (.ref p) (upd H1 p (.tup xs))) : tTup t σ H Q := q
theorem ie_ixZ {te ti : TE} {σ : L2.St} {H : Hp} {p : Addr} {l : List Int} {i : Nat} {v : Int} (h : IsE te σ H (.ref p)) (g : IsE ti σ H (.int (i : Nat))) (hS : SqL K H p (zV l)) (e : l[i]? = some v) : IsE (tOp (rIxL K) te ti) σ H (.int v) :=
  ie_ixL h g hS (by rw [List.getElem?_map, e]; rfl)
theorem cut_z (l : List Int) {lo hi : Nat} : cutV (zV l) (some (lo : Int)) (some (hi : Int)) = zV ((l.take hi).drop lo) := by
  rw [cut_to]
  simp [zV, List.map_drop, List.map_take]
theorem sl_z {te tl th : TE} {σ : L2.St} {H : Hp} {a : Addr} {l : List Int} {lo hi : Nat} {Q : VK} (he : IsE te σ H (.ref a)) (hl : IsE tl σ H (.int (lo : Nat))) (hh : IsE th σ H (.int (hi : Nat))) (hS : SqL K H a (zV l))
    (q : ∀ p, H p = none → Q (.ref p) (upd H p (.lst (zV ((l.take hi).drop lo))))) : tSl (rSlL K) te (tPart tl) (tPart th) σ H Q := by
  refine he _ (part_is hl (part_is hh ⟨a, zV l, rfl, hS, fun p n => ?_⟩))
  rw [cut_z]
  exact q p n
theorem row_cut {l row rest : List Int} {m : Nat} (h : l.drop m = row ++ rest) : (l.take (m + row.length)).drop m = row := by
  rw [List.drop_take, Nat.add_sub_cancel_left, h, List.take_left]
theorem enc_begin : enc .begin_ = [1] := rfl
/-- a call's numbers and its row -/
theorem enc_short {b : BC} (h : numB b = 2 ∨ numB b = 3 ∨ numB b = 4) : enc b = ((numB b : Nat) : Int) :: (((rowB b).length : Nat) : Int) :: rowB b ∧ iB b = 0 := by
  cases b with
  | begin_ => simp [numB] at h
  | words t => exact ⟨by simp [enc, numB, rowB, zB], rfl⟩
  | joins t => exact ⟨by simp [enc, numB, rowB, zB], rfl⟩
  | many s => exact ⟨by simp [enc, numB, rowB, zN], rfl⟩
  | nth i s => simp [numB] at h
  | reading i s => simp [numB] at h
theorem enc_long {b : BC} (h : numB b = 5 ∨ numB b = 6) : enc b = ((numB b : Nat) : Int) :: ((iB b : Nat) : Int) :: (((rowB b).length : Nat) : Int) :: rowB b := by
  cases b with
  | begin_ => simp [numB] at h
  | words t => simp [numB] at h
  | joins t => simp [numB] at h
  | many s => simp [numB] at h
  | nth i s => simp [enc, numB, rowB, zN, iB]
  | reading i s => simp [enc, numB, rowB, zN, iB]
theorem in_five {n : Nat} : inV (.int (n : Nat)) [V.int 5, V.int 6] = decide (n = 5 ∨ n = 6) := by
  have e : inV (.int (n : Nat)) [V.int 5, V.int 6] = (decide ((5 : Int) = (n : Int)) || (decide ((6 : Int) = (n : Int)) || false)) := by
    unfold inV
    rw [List.any_cons, List.any_cons, List.any_nil]
    rfl
  rw [e, Bool.eq_iff_iff]
  simp only [Bool.or_eq_true, decide_eq_true_eq, Bool.or_false]
  omega
theorem ok_callAt {f : Addr} {fd : FuncData} (F : Fun K "call_at" "call_at" sCallAt f fd) (G : Glob mg) : FnOk P w K mg base CX0 1 f fd ["calls", "place"] (spCallAt K) := by
  refine F.ok scCallAt (fun vs H Q E h => ?_) (fun cdv A outer s H vs Q E hr h => ?_)
  · obtain ⟨c, l, k, b, rest, rfl, _⟩ := h
    rfl
  · refine ⟨_, pss_cons (ps_set (i := 2) scCallAt.nd rfl (Or.inl rfl) (pe_ix ix_list (pv 0) (pv 1) (fun _ _ => rfl)))
      (pss_cons (ps_aug (i := 1) scCallAt.nd rfl (Or.inl rfl) pe_int ip_add)
      (pss_cons (ps_if (pt_cmpR op_eq (pv 2) (pe_num G.begin rfl) (nomark _)) (pss_one (ps_ret (pe_tup (pa_cons (pv 2) (pa_cons pe_int (pa_cons (pe_lst pa_nil) (pa_cons (pv 1) pa_nil))))))) pss_nil)
      (pss_cons (ps_set (i := 3) scCallAt.nd rfl (Or.inl rfl) pe_int)
      (pss_cons (ps_if (pt_cmpR op_in_seq (pv 2) (pe_tup (pa_cons (pe_num G.nthC rfl) (pa_cons (pe_num G.readingC rfl) pa_nil))) rfl)
        (pss_cons (ps_set (i := 3) scCallAt.nd rfl (Or.inl rfl) (pe_ix ix_list (pv 0) (pv 1) (fun _ _ => rfl))) (pss_one (ps_aug (i := 1) scCallAt.nd rfl (Or.inl rfl) pe_int ip_add))) pss_nil)
      (pss_cons (ps_set (i := 4) scCallAt.nd rfl (Or.inl rfl) (pe_op op_add (pv 1) pe_int))
      (pss_cons (ps_set (i := 5) scCallAt.nd rfl (Or.inl rfl) (pe_op op_add (pv 4) (pe_ix ix_list (pv 0) (pv 1) (fun _ _ => rfl))))
      (pss_one (ps_ret (pe_tup (pa_cons (pv 2) (pa_cons (pv 3) (pa_cons (pe_slice sl_list (pv 0) (po_some (pv 4)) (po_some (pv 5))) (pa_cons (pv 5) pa_nil))))))))))))), ?_⟩
    obtain ⟨c, l, k, b, rest, rfl, hS, hd, q⟩ := h
    have at_ : ∀ j x, (enc b ++ rest)[j]? = some x → l[k + j]? = some x := fun j x e => by rw [← hd, List.getElem?_drop] at e; exact e
    have hn : l[k]? = some ((numB b : Nat) : Int) := by
      refine at_ 0 _ ?_
      cases b <;> rfl
    have ek : ((k : Nat) : Int) + 1 = ((k + 1 : Nat) : Int) := by omega
    refine seq_set (ie_ixZ (ie_v rfl) (ie_v rfl) hS hn) ?_
    refine ⟨_, rfl, _, _, rfl, rfl, ?_⟩
    dsimp only
    rw [ek]
    by_cases h1 : numB b = 1
    · have eb : b = .begin_ := by
        cases b with
        | begin_ => rfl
        | words t => cases h1
        | joins t => cases h1
        | many s => cases h1
        | nth i s => cases h1
        | reading i s => cases h1
      subst eb
      refine num_yes (x := 1) (y := 1) rfl rfl ?_
      refine ret_of (tup_of (arg_is (ie_v rfl) (arg_is ie_c (arg_of ⟨by show 0 ≤ sizeLine; decide, fun pl npl => arg1 (ie_v rfl) ⟨by show 4 ≤ sizeLine; decide, fun t nt => ?_⟩⟩))))
      exact q _ t pl ((same_upd npl).trans (same_upd nt)) upd_same ((upd_ne (ne_of_none upd_same nt)).trans upd_same)
    · refine num_no (x := numB b) (y := 1) rfl (decide_eq_false h1) ?_
      refine seq_set ie_c ?_
      refine seq_ifq ⟨_, rfl, by show 2 ≤ sizeLine; decide, fun tp ntp => ⟨tp, _, rfl, .inr (SqT.of upd_same), rfl, rfl, inV (.int (numB b : Nat)) [V.int 5, V.int 6], rfl, if_bool (fun e => ?_) (fun e => ?_)⟩⟩
      · rw [in_five] at e
        have hlong := enc_long (of_decide_eq_true e)
        have s1 : Same H (upd H tp (.tup [V.int 5, V.int 6])) := same_upd ntp
        have hi : l[k + 1]? = some ((iB b : Nat) : Int) := at_ 1 _ (by rw [hlong]; rfl)
        have hr3 : l[k + 2]? = some (((rowB b).length : Nat) : Int) := at_ 2 _ (by rw [hlong]; rfl)
        have hrow : l.drop (k + 2 + 1) = rowB b ++ rest := by
          rw [show k + 2 + 1 = k + 3 from rfl, ← List.drop_drop, hd, hlong]
          rfl
        have el : (enc b).length = 3 + (rowB b).length := by rw [hlong]; simp; omega
        refine seq_of (seq_set (ie_ixZ (ie_v rfl) (ie_v rfl) (s1.seq hS) hi) ?_)
        refine ⟨_, rfl, _, _, rfl, rfl, ?_⟩
        dsimp only
        rw [show ((k + 1 : Nat) : Int) + 1 = ((k + 2 : Nat) : Int) by omega]
        refine seq_set (ie_addN (x := k + 2) (y := 1) (ie_v rfl) ie_c) ?_
        refine seq_set (ie_addN (x := k + 2 + 1) (y := (rowB b).length) (ie_v rfl) (ie_ixZ (ie_v rfl) (ie_v rfl) (s1.seq hS) hr3)) ?_
        refine ret_of (tup_of (arg_is (ie_v rfl) (arg_is (ie_v rfl) (arg_of (sl_z (ie_v rfl) (ie_v rfl) (ie_v rfl) (s1.seq hS) fun pl npl => arg1 (ie_v rfl) ⟨by show 4 ≤ sizeLine; decide, fun t nt => ?_⟩)))))
        rw [row_cut hrow] at nt ⊢
        refine q _ t pl ((s1.trans (same_upd npl)).trans (same_upd nt)) ?_ ((upd_ne (ne_of_none upd_same nt)).trans upd_same)
        rw [upd_same, el, show k + (3 + (rowB b).length) = k + 2 + 1 + (rowB b).length by omega]
      · rw [in_five] at e
        have h5 := of_decide_eq_false e
        have hsh : numB b = 2 ∨ numB b = 3 ∨ numB b = 4 := by
          cases b with
          | begin_ => exact absurd rfl h1
          | words t => exact .inl rfl
          | joins t => exact .inr (.inl rfl)
          | many s => exact .inr (.inr rfl)
          | nth i s => exact absurd (.inl rfl) h5
          | reading i s => exact absurd (.inr rfl) h5
        obtain ⟨hshort, hi0⟩ := enc_short hsh
        have s1 : Same H (upd H tp (.tup [V.int 5, V.int 6])) := same_upd ntp
        have hr2 : l[k + 1]? = some (((rowB b).length : Nat) : Int) := at_ 1 _ (by rw [hshort]; rfl)
        have hrow : l.drop (k + 1 + 1) = rowB b ++ rest := by
          rw [show k + 1 + 1 = k + 2 from rfl, ← List.drop_drop, hd, hshort]
          rfl
        have el : (enc b).length = 2 + (rowB b).length := by rw [hshort]; simp; omega
        refine seq_next ?_
        refine seq_set (ie_addN (x := k + 1) (y := 1) (ie_v rfl) ie_c) ?_
        refine seq_set (ie_addN (x := k + 1 + 1) (y := (rowB b).length) (ie_v rfl) (ie_ixZ (ie_v rfl) (ie_v rfl) (s1.seq hS) hr2)) ?_
        refine ret_of (tup_of (arg_is (ie_v rfl) (arg_is (ie_v rfl) (arg_of (sl_z (ie_v rfl) (ie_v rfl) (ie_v rfl) (s1.seq hS) fun pl npl => arg1 (ie_v rfl) ⟨by show 4 ≤ sizeLine; decide, fun t nt => ?_⟩)))))
        rw [row_cut hrow] at nt ⊢
        refine q _ t pl ((s1.trans (same_upd npl)).trans (same_upd nt)) ?_ ((upd_ne (ne_of_none upd_same nt)).trans upd_same)
        rw [upd_same, el, hi0, show k + (2 + (rowB b).length) = k + 1 + 1 + (rowB b).length by omega]
        rfl
end Say
set_option Elab.async false
set_option linter.all false
set_option maxRecDepth 100000
set_option maxHeartbeats 1000000
/-! All calls. -/
namespace Say
open PySem PySem.Spec PyProof.Rows L2
open SyBase SyLex SyWays SyBack
open LamX (Tabs ExtN TabB TabS)
variable {P : Program} {w : World} {K : PySem.W.Frag} {mg : Str → Option Value} {base : Heap}
theorem big7 {n : Nat} (h : n ≤ 10000000) : n < sizeLine := by
  rw [sizeLine_eq]
  omega
theorem told_cons (x : List Int) (l : List (List Int)) : PyFlat.told (x :: l) = ((x.length : Nat) : Int) :: (x ++ PyFlat.told l) := rfl
def spAnswers (K : PySem.W.Frag) (T : List (Addr × Str)) : Sp := fun vs H Q _ => ∃ (c : Addr) (bs : List BC), vs = [.ref c] ∧ SqL K H c (zV (bs.flatMap enc)) ∧ (∀ b ∈ bs, Good b) ∧ (PyFlat.told (playB BackSpec.start bs)).length ≤ 10000000 ∧ Tabs T H ∧
  ∀ H' p, H' p = some (.lst (zV (PyFlat.told (playB BackSpec.start bs)))) → Q (.ref p) H'
theorem scAnswers : FnScope ["calls", "keeper", "told", "place", "number", "i", "row", "answer"] ["calls"] (defScope sAnswers) := ⟨rfl, rfl, rfl, by decide +kernel, rfl, by decide +kernel, by decide +kernel⟩
def leftPl (n : Nat) (σ : L2.St) : Nat := match σ[3]? with
  | some (some (V.int k)) => n - k.toNat
  | _ => 0
theorem enc_pos (b : BC) : 1 ≤ (enc b).length := by
  cases b <;> simp [enc]
theorem sq_but {k a : Addr} {H H' : Hp} {xs : List V} (h : SqL K H a xs) (e : ExtBut k H H') (n : H k = none) : SqL K H' a xs := by
  rcases h with (h | ⟨o, h⟩) | h
  · exact .inl (.inl (e _ _ (ne_of_none h n) h (fun ps z => by cases z)))
  · exact .inl (.inr ⟨o, e _ _ (ne_of_none h n) h (fun ps z => by cases z)⟩)
  · exact .inr h
theorem KeeperAt.own {CK CW CJ k p : Addr} {H : Hp} {g : Weights} {xs : List V} {o : HO} (h : KeeperAt CK CW CJ H k g) (hp : H p = some (.lst xs)) (n : LexNot k H p) : KeeperAt CK CW CJ (upd H p o) k g := by
  obtain ⟨dx, l, j, as, js, h1, h2, h3, h4, ⟨dj, dd, h5, h6⟩, h7, h8⟩ := h
  have hl := n _ _ _ _ h1
  refine ⟨dx, l, j, as, js, (upd_ne fun z => by rw [z, hp] at h1; cases h1).trans h1, h2, (upd_ne hl).trans h3, paired_mono (fun _ _ h => h.keepTI (keep_own (Same.refl H) hp)) h4, ⟨dj, dd, (upd_ne fun z => by rw [z, hp] at h5; cases h5).trans h5, (upd_ne fun z => by rw [z, hp] at h6; cases h6).trans h6⟩, h7, h8⟩
theorem but_own {k p : Addr} {H H' : Hp} {o : HO} (e : ExtBut k H H') (n : H p = none) : ExtBut k H (upd H' p o) := fun b u hb eb t => by
  rw [upd_ne (ne_of_none eb n)]
  exact e b u hb eb t
theorem ExtBut.trans' {k : Addr} {H H1 H2 : Hp} (a : ExtBut k H H1) (b : ExtBut k H1 H2) : ExtBut k H H2 := fun c o n e t => b c o n (a c o n e t) t
theorem lex_own {k p : Addr} {H : Hp} {o : HO} (n : LexNot k H p) (hk : k ≠ p) : LexNot k (upd H p o) p := fun C dx l j e => n C dx l j (by rw [upd_ne hk] at e; exact e)
theorem KeeperAt.ne {CK CW CJ k p : Addr} {H : Hp} {g : Weights} {xs : List V} (h : KeeperAt CK CW CJ H k g) (hp : H p = some (.lst xs)) : k ≠ p := by
  obtain ⟨dx, l, j, as, js, h1, _⟩ := h
  exact fun z => by rw [z, hp] at h1; cases h1
theorem ok_answers {CK CW CJ fI : Addr} {T : List (Addr × Str)} {f : Addr} {fd fdI : FuncData} (F : Fun K "answers" "answers" sAnswers f fd) (G : Glob mg) (TK : KeeperC K mg CK) (MK : Mk K CK fI)
    (FI : FnOk P w K mg base CX0 4 fI fdI ["self"] (spBegin CK CW CJ .non)) (bI0 : Binds K fdI ["self"] [])
    (h1 : Has P w K mg base CX0 1 "call_at" ["calls", "place"] (spCallAt K)) (h2 : Has P w K mg base CX0 10 "answer_or_refusal" ["keeper", "number", "i", "row"] (spAnswerOr K CK CW CJ T)) :
    FnOk P w K mg base CX0 11 f fd ["calls"] (spAnswers K T) := by
  obtain ⟨f1, fd1, G1, m1, k1, b1⟩ := h1
  obtain ⟨f2, fd2, G2, m2, k2, b2⟩ := h2
  refine F.ok scAnswers (fun vs H Q E h => ?_) (fun cdv A outer s H vs Q E hr h => ?_)
  · obtain ⟨c, bs, rfl, _⟩ := h
    rfl
  · refine ⟨_, pss_cons (ps_set (i := 1) scAnswers.nd rfl (Or.inl rfl) (pe_make0 MK FI (hr.mono (by decide)) rfl TK.gC bI0 .nil pass0))
      (pss_cons (ps_set (i := 2) scAnswers.nd rfl (Or.inl rfl) (pe_lst pa_nil))
      (pss_cons (ps_set (i := 3) scAnswers.nd rfl (Or.inl rfl) pe_int)
      (pss_cons (ps_while PassesOwn.never (pt_cmpR op_lt (pv 3) (pe_callB call_len_seq rfl G.len PySem.boot_len (pa_cons (pv 0) pa_nil)) (nomark _))
        (pss_cons (ps_asg (pe_call G1 (hr.mono (by decide)) rfl m1 k1 b1 .nil pass0 (pa_cons (pv 0) (pa_cons (pv 3) pa_nil)))
          (pg_tup rfl (pgs_cons (pg_name (i := 4) scAnswers.nd rfl (Or.inl rfl)) (pgs_cons (pg_name (i := 5) scAnswers.nd rfl (Or.inl rfl)) (pgs_cons (pg_name (i := 6) scAnswers.nd rfl (Or.inl rfl)) (pgs_cons (pg_name (i := 3) scAnswers.nd rfl (Or.inl rfl)) pgs_nil))))))
        (pss_cons (ps_set (i := 7) scAnswers.nd rfl (Or.inl rfl) (pe_call G2 hr rfl m2 k2 b2 .nil pass0 (pa_cons (pv 1) (pa_cons (pv 4) (pa_cons (pv 5) (pa_cons (pv 6) pa_nil))))))
        (pss_cons (ps_expr (pe_bm PySem.F.plainAttrs_list PySem.F.slot_list_append PySem.F.type_list_append mt_append (pv 2) (pa_cons (pe_callB call_len_seq rfl G.len PySem.boot_len (pa_cons (pv 7) pa_nil)) pa_nil)))
        (pss_one (ps_expr (pe_bm PySem.F.plainAttrs_list PySem.F.slot_list_extend PySem.F.type_list_extend mt_extend (pv 2) (pa_cons (pv 7) pa_nil))))))))
      (pss_one (ps_ret (pv 2)))))), ?_⟩
    obtain ⟨c, bs, rfl, hS, hgb, hsz, hT, q⟩ := h
    refine seq_asg ?_
    intro x dx nx ndx nex
    have s0 : Same H (upd (upd H dx (.own x)) x (.ins CK dx [])) := fun b o e => by
      rw [upd_ne (ne_of_none e nx), upd_ne (ne_of_none e ndx)]
      exact e
    refine ⟨x, dx, [], rfl, upd_same, .inl rfl, fun H1 eb lk ht hk1 => ⟨rfl, ?_⟩⟩
    have T1 : Tabs T H1 := tabs_kept (hT.ext s0) upd_same eb ht
    have eb1 : ExtBut x H H1 := fun b o n e t => eb b o n (s0 b o e) t
    refine seq_asg ⟨by show 0 ≤ sizeLine; decide, fun p np => ?_⟩
    have s1 : Same H1 (upd H1 p (.lst [])) := same_upd np
    have npH : H p = none := by
      cases e : H p with
      | none => rfl
      | some o =>
        by_cases hx : p = x
        · rw [hx, nx] at e
          cases e
        · have := ht
          cases ho : o with
          | tbl ps =>
            rw [ho] at e
            have := ht p ps (s0 _ _ e)
            rw [np] at this
            cases this
          | _ =>
            have := eb1 p o hx e (fun ps z => by rw [ho] at z; cases z)
            rw [np] at this
            cases this
    have ln : LexNot x (upd H1 p (.lst [])) p := by
      obtain ⟨dy, l, j, as, js, g1, g2, g3, _⟩ := hk1
      intro C dz l' j' ek
      rw [s1 _ _ g1] at ek
      have : l = l' := by
        injection ek with ek
        injection ek with _ _ ek
        injection ek with ek _
        injection ek with _ ek
        injection ek
      rw [← this]
      exact ne_of_none g3 np
    refine seq_set ie_c ?_
    refine while_by (fun σ Hc => ∃ (done rest : List BC) (g : Weights) (acc : List Int) (v4 v5 v6 v7 : Option V), σ = [some (.ref c), some (.ref x), some (.ref p), some (.int (((done.flatMap enc).length : Nat) : Int)), v4, v5, v6, v7] ∧ bs = done ++ rest ∧ ExtBut x H Hc ∧ Tabs T Hc ∧
        KeeperAt CK CW CJ Hc x g ∧ GoodG g ∧ LexNot x Hc p ∧ Hc p = some (.lst (zV acc)) ∧ acc ++ PyFlat.told (playB g rest) = PyFlat.told (playB BackSpec.start bs)) (fun σ _ => leftPl (bs.flatMap enc).length σ)
      ⟨[], bs, bare, [], none, none, none, none, rfl, rfl, butN eb1 s1, T1.ext s1, hk1.same s1, ⟨Nat.zero_le _, fun y hy => by cases hy⟩, ln, upd_same, rfl⟩ ?_ ?_
    · rintro σ Hc ⟨done, rest, g, acc, v4, v5, v6, v7, rfl, ebs, ec, Tc, hk, hg, hln, hp, hacc⟩
      have hSc := sq_but hS ec nx
      have hl : (bs.flatMap enc).length = (done.flatMap enc).length + (rest.flatMap enc).length := by rw [ebs, List.flatMap_append, List.length_append]
      refine is_cmp (x := ((done.flatMap enc).length : Nat)) (y := ((zV (bs.flatMap enc)).length : Nat)) rfl (ie_v rfl) (ie_len (ie_v rfl) hSc) _ ?_
      rw [List.length_map]
      cases rest with
      | nil =>
        refine if_false_of (decide_eq_false (by rw [hl]; simp)) ?_
        rw [show PyFlat.told (playB g []) = [] from rfl, List.append_nil] at hacc
        exact ⟨_, rfl, q Hc p (by rw [← hacc]; exact hp)⟩
      | cons b rest =>
        have hpos := enc_pos b
        have hlt : (done.flatMap enc).length < (bs.flatMap enc).length := by
          rw [hl, List.flatMap_cons, List.length_append]
          omega
        refine if_true_of (decide_eq_true (by omega)) ?_
        have hdrop : (bs.flatMap enc).drop (done.flatMap enc).length = enc b ++ rest.flatMap enc := by
          rw [ebs, List.flatMap_append, List.drop_left, List.flatMap_cons]
        refine seq_asgG (call_of (arg_is (ie_v rfl) (arg1 (ie_v rfl) ⟨c, _, _, b, _, rfl, hSc, hdrop, fun H2 t a s2 ht2 ha => ?_⟩)))
        refine ⟨t, _, rfl, SqT.of ht2, rfl, _, _, rfl, gname ⟨_, _, rfl, gname ⟨_, _, rfl, gname ⟨_, _, rfl, gname ⟨rfl, ?_⟩⟩⟩⟩⟩
        refine seq_asg (call_of (arg_is (ie_v rfl) (arg_is (ie_v rfl) (arg_is (ie_v rfl) (arg1 (ie_v rfl) ⟨x, a, g, b, rfl, hk.same s2, hg, .inl (.inl ha), hgb b (by rw [ebs]; simp), Tc.ext s2, fun H3 l fl e3 lk3 T3 hk3 hg3 hl3 => ?_⟩)))))
        have hp2 : H2 p = some (.lst (zV acc)) := s2 _ _ hp
        have hxp : x ≠ p := hk.ne hp
        have hp3 : H3 p = some (.lst (zV acc)) := e3 p _ (Ne.symm hxp) hp2 (fun ps z => by cases z)
        have hlp : l ≠ p := fun z => fl p _ hp2 (fun ps z => by cases z) z.symm
        have hln2 : LexNot x H2 p := by
          obtain ⟨dy, l0, j0, as, js, g1, _⟩ := hk
          intro C dz l' j' ek
          rw [s2 _ _ g1] at ek
          exact hln C dz l' j' (by rw [g1]; exact ek)
        have hln3 := lk3 p _ hp2 (fun ps z => by cases z) hln2
        have ec3 : ExtBut x H H3 := (butN ec s2).trans' e3
        generalize hr : BackSpec.step g b = r at hk3 hg3 hl3
        have hstep : playB g (b :: rest) = toldB r.2 :: playB r.1 rest := by
          show toldB (BackSpec.step g b).2 :: playB (BackSpec.step g b).1 rest = _
          rw [hr]
        rw [hstep, told_cons] at hacc
        have hle : acc.length + 1 + (toldB r.2).length ≤ 10000000 := by
          rw [← hacc] at hsz
          rw [List.length_append, List.length_cons, List.length_append] at hsz
          omega
        refine ⟨_, rfl, Or.inl ⟨rfl, _, .inl (.inl hp3)⟩, ?_⟩
        refine args_one ((ie_len (ie_v rfl) (.inl (.inl hl3))) _ ⟨p, _, _, rfl, rfl, hp3, by rw [List.length_map]; exact big7 (by omega), ?_⟩)
        refine ⟨_, rfl, Or.inl ⟨rfl, _, .inl (.inl upd_same)⟩, ?_⟩
        refine args_one ⟨_, rfl, p, l, _, _, rfl, rfl, upd_same, (upd_ne hlp).trans hl3, Nat.le_of_lt (by rw [List.length_append, List.length_map, List.length_map]; exact big7 (by simp; omega)), ?_⟩
        refine ⟨⟨done ++ [b], rest, r.1, acc ++ (((toldB r.2).length : Nat) : Int) :: toldB r.2, some (.int (numB b : Nat)), some (.int (iB b : Nat)), some (.ref a), some (.ref l), ?_, by rw [ebs]; simp, but_own (but_own ec3 npH) npH, tabs_own (tabs_own T3 hp3) upd_same, (hk3.own hp3 hln3).own upd_same (lex_own hln3 hxp), hg3, lex_own (lex_own hln3 hxp) hxp, ?_, ?_⟩, ?_⟩
        · rw [show ((done ++ [b]).flatMap enc).length = (done.flatMap enc).length + (enc b).length by rw [List.flatMap_append, List.flatMap_singleton, List.length_append]]
          rfl
        · rw [upd_same, List.length_map]
          simp
        · rw [← hacc]
          simp
        · show (bs.flatMap enc).length - (((done.flatMap enc).length + (enc b).length : Nat) : Int).toNat < (bs.flatMap enc).length - (((done.flatMap enc).length : Nat) : Int).toNat
          omega
    · intro σ H Q Q' h z
      obtain ⟨v, e, z⟩ := z
      refine ⟨v, e, ?_⟩
      obtain ⟨v', e', p, ys, e1, e2, i, j, e3, e4, b, e5, z⟩ := z
      exact ⟨v', e', p, ys, e1, e2, i, j, e3, e4, b, e5, h _ _ z⟩
end Say
set_option Elab.async false
set_option linter.all false
set_option maxRecDepth 100000
set_option maxHeartbeats 1000000
/-! Where each def stands, behind the top. -/
namespace Say
open PySem PySem.Spec PyProof.Rows L2
variable {K : PySem.W.Frag} {mg : Str → Option Value} {h : Heap}
def DefAt (K : PySem.W.Frag) (mg : Str → Option Value) (x : Str) (st : Stmt) (ps : List Str) : Prop := ∃ (f : Addr) (fd : FuncData), Fun K x x st f fd ∧ mg x = some (.ref f) ∧ Binds K fd ps []
/-- a def whose code object is at c -/
def DefCAt (K : PySem.W.Frag) (mg : Str → Option Value) (x : Str) (st : Stmt) (ps : List Str) (c : Addr) : Prop := ∃ (f : Addr) (fd : FuncData), FunC K x x st f fd c ∧ mg x = some (.ref f) ∧ Binds K fd ps []
/-- the def that the row calls -/
def RowDef (K : PySem.W.Frag) (mg : Str → Option Value) (x : Str) (st : Stmt) (ps : List Str) : Prop := ∃ (f : Addr) (fd : FuncData), Fun K x x st f fd ∧ mg x = some (.ref f) ∧ ∀ (s : Shared) (us : List Value), us.length = ps.length → BindsTo s fd ⟨us, []⟩ (ps.zip us)
def MethAt (K : PySem.W.Frag) (C : Addr) (m qual : Str) (st : Stmt) (ps : List Str) : Prop := ∃ (f : Addr) (fd : FuncData), Fun K m qual st f fd ∧ Meth K C m f ∧ Binds K fd ps []
def InitAt (K : PySem.W.Frag) (C : Addr) (qual : Str) (st : Stmt) (ps : List Str) : Prop := ∃ (f : Addr) (fd : FuncData), Fun K "__init__" qual st f fd ∧ Mk K C f ∧ Binds K fd ps []
def FaultAt (K : PySem.W.Frag) (mg : Str → Option Value) (C : Addr) : Prop := ∃ (f : Addr) (fd : FuncData), FaultyC K mg C f ∧ Fun K "__init__" "Faulty.__init__" sFaultyInit f fd ∧ Binds K fd ["self", "line", "kind"] []
section
variable {x qual : Str} {st : Stmt} {ps : List Str} {f C : Addr} {od an : Option Addr} {osl : Array (Option Value)} {oc kV doc pm cd ct : Value}
theorem defAt_mk (X : K.In h) (G : h.Ns mainGlobals mg) (a : PySem.W.nsIn K mainGlobals x = some (some (.ref f)))
    (l : K.lookup f = some ⟨oc, od, .func (PySem.W.fnOf x x (defArgs st) (defBody st) (defScope st) .none kV doc pm an cd ct), osl⟩) (c : PySem.W.codeIn K cd x = true) (k : PySem.W.keepIn K (.ref f) = true)
    (hb : ∀ (kV doc pm : Value) (an : Option Addr) (cdv ct : Value) (us : List Value), us.length = ps.length → bindArgs (PySem.W.fnOf x x (defArgs st) (defBody st) (defScope st) .none kV doc pm an cdv ct) ⟨us, []⟩ = pure (ps.zip us)) : DefAt K mg x st ps :=
  ⟨f, _, fun_mk l c k, PySem.W.mg_of X G a, (fun_mk l c k).binds hb⟩
theorem defCAt_mk {c0 : Addr} (X : K.In h) (G : h.Ns mainGlobals mg) (a : PySem.W.nsIn K mainGlobals x = some (some (.ref f)))
    (l : K.lookup f = some ⟨oc, od, .func (PySem.W.fnOf x x (defArgs st) (defBody st) (defScope st) .none kV doc pm an (.ref c0) ct), osl⟩) (c : PySem.W.codeIn K (.ref c0) x = true) (k : PySem.W.keepIn K (.ref f) = true)
    (hb : ∀ (kV doc pm : Value) (an : Option Addr) (cdv ct : Value) (us : List Value), us.length = ps.length → bindArgs (PySem.W.fnOf x x (defArgs st) (defBody st) (defScope st) .none kV doc pm an cdv ct) ⟨us, []⟩ = pure (ps.zip us)) : DefCAt K mg x st ps c0 :=
  ⟨f, _, ⟨⟨_, _, _, _, _, _, _, _, rfl, l, c⟩, k⟩, PySem.W.mg_of X G a, (fun_mk l c k).binds hb⟩
theorem rowDef_mk (X : K.In h) (G : h.Ns mainGlobals mg) (a : PySem.W.nsIn K mainGlobals x = some (some (.ref f)))
    (l : K.lookup f = some ⟨oc, od, .func (PySem.W.fnOf x x (defArgs st) (defBody st) (defScope st) .none kV doc pm an cd ct), osl⟩) (c : PySem.W.codeIn K cd x = true) (k : PySem.W.keepIn K (.ref f) = true)
    (hb : ∀ (kV doc pm : Value) (an : Option Addr) (cdv ct : Value) (us : List Value), us.length = ps.length → bindArgs (PySem.W.fnOf x x (defArgs st) (defBody st) (defScope st) .none kV doc pm an cdv ct) ⟨us, []⟩ = pure (ps.zip us)) : RowDef K mg x st ps :=
  ⟨f, _, fun_mk l c k, PySem.W.mg_of X G a, fun s us hu => .of_eq (hb _ _ _ _ _ _ us hu)⟩
theorem methAt_mk {m : Str} (a : PySem.W.findIn K (.ref C) m = some (some (.ref f))) (i : PySem.W.isFn K (.ref f) = true)
    (l : K.lookup f = some ⟨oc, od, .func (PySem.W.fnOf m qual (defArgs st) (defBody st) (defScope st) .none kV doc pm an cd ct), osl⟩) (c : PySem.W.codeIn K cd qual = true) (k : PySem.W.keepIn K (.ref f) = true)
    (hb : ∀ (kV doc pm : Value) (an : Option Addr) (cdv ct : Value) (us : List Value), us.length = ps.length → bindArgs (PySem.W.fnOf m qual (defArgs st) (defBody st) (defScope st) .none kV doc pm an cdv ct) ⟨us, []⟩ = pure (ps.zip us)) : MethAt K C m qual st ps :=
  ⟨f, _, fun_mk l c k, ⟨a, i, k⟩, (fun_mk l c k).binds hb⟩
theorem initAt_mk (a : PySem.W.findIn K (.ref C) "__init__" = some (some (.ref f))) (i : PySem.W.isFn K (.ref f) = true)
    (l : K.lookup f = some ⟨oc, od, .func (PySem.W.fnOf "__init__" qual (defArgs st) (defBody st) (defScope st) .none kV doc pm an cd ct), osl⟩) (c : PySem.W.codeIn K cd qual = true) (k : PySem.W.keepIn K (.ref f) = true)
    (mk : PySem.W.makesIn K C = true) (kc : PySem.W.keepIn K (.ref C) = true)
    (hb : ∀ (kV doc pm : Value) (an : Option Addr) (cdv ct : Value) (us : List Value), us.length = ps.length → bindArgs (PySem.W.fnOf "__init__" qual (defArgs st) (defBody st) (defScope st) .none kV doc pm an cdv ct) ⟨us, []⟩ = pure (ps.zip us)) : InitAt K C qual st ps :=
  ⟨f, _, fun_mk l c k, ⟨mk, a, i, kc⟩, (fun_mk l c k).binds hb⟩
theorem faultAt_mk {nm q : Str} {N : Addr} {bs : List Value} {sn : List Str} {sub : List Value} {ab : Bool} {col : Option Bool} {dd : Option Addr} {m0 m1 m2 m3 m5 : Option Value} (X : K.In h) (G : h.Ns mainGlobals mg)
    (aC : PySem.W.nsIn K mainGlobals "Faulty" = some (some (.ref C))) (xL : K.lookup C = some (excClassObj nm q C N bs SayE.exT true sn sub ab col dd m0 m1 m2 m3 m5 "Exception.__new__"))
    (sa : PySem.W.findIn K (.ref C) "__setattr__" = some (some (.builtin "object.__setattr__"))) (eC : PySem.W.subIn K (.ref C) (.type "BaseException") = some true) (tC : PySem.W.typeIn K (.ref C) = some (.type "type")) (kC : PySem.W.keepIn K (.ref C) = true)
    (n1 : PySem.W.findIn K (.ref C) "line" = some none) (n2 : PySem.W.findIn K (.ref C) "kind" = some none) (vE : PySem.W.findCls K (.type "Exception") (.type "type") "__init__" = some (.val (.builtin "Exception.__init__")))
    (a : PySem.W.findIn K (.ref C) "__init__" = some (some (.ref f))) (t : PySem.W.typeIn K (.ref f) = some (.type "function"))
    (l : K.lookup f = some ⟨oc, od, .func (PySem.W.fnOf "__init__" "Faulty.__init__" (defArgs sFaultyInit) (defBody sFaultyInit) (defScope sFaultyInit) .none kV doc pm an cd ct), osl⟩) (c : PySem.W.codeIn K cd "Faulty.__init__" = true) (k : PySem.W.keepIn K (.ref f) = true)
    (hb : ∀ (kV doc pm : Value) (an : Option Addr) (cdv ct : Value) (us : List Value), us.length = 3 → bindArgs (PySem.W.fnOf "__init__" "Faulty.__init__" (defArgs sFaultyInit) (defBody sFaultyInit) (defScope sFaultyInit) .none kV doc pm an cdv ct) ⟨us, []⟩ = pure ((["self", "line", "kind"] : List Str).zip us)) : FaultAt K mg C :=
  ⟨f, _, ⟨⟨⟨nm, q, N, bs, sn, sub, ab, col, dd, m0, m1, m2, m3, m5, xL⟩, sa, eC, tC, kC⟩, PySem.W.mg_of X G aC, n1, n2, vE, a, t⟩, fun_mk l c k, (fun_mk l c k).binds hb⟩
end
theorem num_mk {x : Str} {i : Int} {t : Tok} (X : K.In h) (G : h.Ns mainGlobals mg) (a : PySem.W.nsIn K mainGlobals x = some (some (.int i t))) : Num mg x i := ⟨t, PySem.W.mg_of X G a⟩
theorem kt_mk {a : Addr} {xs : List V} {od : Option Addr} {its : Array Value} {n : Nat} {sl : Array (Option Value)} (l : K.lookup a = some ⟨.type "tuple", od, .seq its n, sl⟩) (s : its.size ≤ sizeLine) (v : Vals xs its.toList) : KT K a xs := ⟨_, its, n, l, rfl, rfl, s, v⟩
/-- whether an error of the class at A is what «except B» names -/
theorem exm_of {A B : Addr} {r : Bool} (h1 : PySem.W.subIn K (.ref B) (.type "BaseException") = some true) (h2 : PySem.W.isClsIn K B = true) (h3 : PySem.W.typeIn K (.ref B) = some (.type "type")) (h4 : PySem.W.subIn K (.ref A) (.ref B) = some r) : PySem.W.exmOne K (.ref A) (.ref B) = some r := by
  have e1 : (PySem.W.subIn K (.ref B) (.type "BaseException") == some true) = true := by rw [h1] <;> rfl
  have e2 : ((PySem.W.clsIn K B).isSome && PySem.W.typeIn K (.ref B) == some (.type "type")) = true := by
    have h5 : (PySem.W.clsIn K B).isSome = true := h2
    rw [h5, h3] <;> rfl
  show (if (PySem.W.subIn K (.ref B) (.type "BaseException") == some true) = true then (if ((PySem.W.clsIn K B).isSome && PySem.W.typeIn K (.ref B) == some (.type "type")) = true then PySem.W.subIn K (.ref A) (.ref B) else none) else none) = some r
  rw [if_pos e1, if_pos e2]
  exact h4
end Say
set_option Elab.async false
set_option linter.all false
set_option maxRecDepth 100000
set_option maxHeartbeats 4000000
/-! All defs, from where they stand to the one that the row calls. -/
namespace Say
open PySem PySem.Spec PyProof.Rows L2
open SyBase SyLex SyWays SyBack
open LamX (Tabs ExtN TabB TabS)
variable {P : Program} {w : World} {K : PySem.W.Frag} {mg : Str → Option Value}
def labels (P1 P2 : Addr) : List (Addr × Str) := [(P1, ("in_order" : Str) ++ ".<locals>." ++ "<lambda>"), (P2, ("pieces_at" : Str) ++ ".<locals>." ++ "<lambda>")]
theorem label1 {P1 P2 : Addr} (n : P1 ≠ P2) : ∀ p ∈ labels P1 P2, p.1 = P1 → p.2 = ("in_order" : Str) ++ ".<locals>." ++ "<lambda>" := fun p hp e => by
  rcases List.mem_cons.mp hp with rfl | hp
  · rfl
  · rcases List.mem_cons.mp hp with rfl | hp
    · exact absurd e.symm n
    · cases hp
theorem label2 {P1 P2 : Addr} (n : P1 ≠ P2) : ∀ p ∈ labels P1 P2, p.1 = P2 → p.2 = ("pieces_at" : Str) ++ ".<locals>." ++ "<lambda>" := fun p hp e => by
  rcases List.mem_cons.mp hp with rfl | hp
  · exact absurd e n
  · rcases List.mem_cons.mp hp with rfl | hp
    · rfl
    · cases hp
theorem tabs_empty {P1 P2 : Addr} {H : Hp} (h1 : H P1 = some (.tbl #[])) (h2 : H P2 = some (.tbl #[])) : Tabs (labels P1 P2) H := fun p hp => by
  rcases List.mem_cons.mp hp with rfl | hp
  · exact .nil h1
  · rcases List.mem_cons.mp hp with rfl | hp
    · exact .nil h2
    · cases hp
/-- what the top leaves -/
structure Top (K : PySem.W.Frag) (mg : Str → Option Value) (CW CJ CP CY CK : Addr) (e : Errs) (c1 c2 : Addr) : Prop where
  G : Glob mg
  forms : HasForms mg K
  TW : WordC K mg CW
  TJ : JoinsC K mg CJ
  TP : PieceC K mg CP
  TY : WayC K mg CY
  TK : KeeperC K mg CK
  BT : BareC K mg "WrongLength" e.CT
  BN : BareC K mg "NoCharacter" e.CN
  BM : BareC K mg "TooManyWays" e.CM
  BS : BareC K mg "NoSuchWay" e.CS
  TE : ErrsC K mg e
  faulty : FaultAt K mg e.CF
  iWord : InitAt K CW "Word.__init__" sWordInit ["self", "reading", "text", "left", "right", "cost"]
  keeps : MethAt K CW "keeps_bounds" "Word.keeps_bounds" sKeepsBounds ["self"]
  iJoins : InitAt K CJ "Joins.__init__" sJoinsInit ["self", "alone", "costs"]
  between : MethAt K CJ "between" "Joins.between" sBetween ["self", "right", "left"]
  iPiece : InitAt K CP "Piece.__init__" sPieceInit ["self", "number", "word"]
  iWay : InitAt K CY "Way.__init__" sWayInit ["self", "pieces", "cost"]
  iKeeper : InitAt K CK "Keeper.__init__" sKeeperInit ["self"]
  begin_ : MethAt K CK "begin" "Keeper.begin" sBegin ["self"]
  takeWords : MethAt K CK "take_words" "Keeper.take_words" sTakeWords ["self", "t"]
  takeJoins : MethAt K CK "take_joins" "Keeper.take_joins" sTakeJoins ["self", "t"]
  countWays : MethAt K CK "count_ways" "Keeper.count_ways" sCountWays ["self", "s"]
  nthWay : MethAt K CK "nth_way" "Keeper.nth_way" sNthWay ["self", "number", "s"]
  piecesFor : MethAt K CK "pieces_for" "Keeper.pieces_for" sPiecesFor ["self", "s"]
  isCharacter : DefAt K mg "is_character" sIsCharacter ["number"]
  mayStand : DefAt K mg "may_stand_in_word" sMayStand ["character"]
  charactersOf : DefAt K mg "characters_of" sCharactersOf ["octets"]
  characterAt : DefAt K mg "character_at" sCharacterAt ["octets", "place"]
  withTail : DefAt K mg "with_tail" sWithTail ["head", "tail"]
  linesOf : DefAt K mg "lines_of" sLinesOf ["t"]
  partsOf : DefAt K mg "parts_of" sPartsOf ["line"]
  partsAt : DefAt K mg "parts_at" sPartsAt ["octets", "mark"]
  numberOf : DefAt K mg "number_of" sNumberOf ["part"]
  newJoins : DefAt K mg "new_joins" sNewJoins []
  joinsOf : DefAt K mg "joins_of" sJoinsOf ["t"]
  aloneOf : DefAt K mg "alone_of" sAloneOf ["line"]
  numbersOf : DefAt K mg "numbers_of" sNumbersOf ["line", "number", "many"]
  withoutFree : DefAt K mg "without_free" sWithoutFree ["told"]
  wordsOf : DefAt K mg "words_of" sWordsOf ["t"]
  kindOfFault : DefAt K mg "kind_of_fault" sKindOfFault ["word", "told", "number"]
  wordOf : DefAt K mg "word_of" sWordOf ["line"]
  rowOf : DefAt K mg "row_of" sRowOf ["part"]
  inOrder : DefCAt K mg "in_order" sInOrder ["words"] c1
  piecesOf : DefAt K mg "pieces_of" sPiecesOf ["lexicon", "alone", "signs"]
  piecesAt : DefCAt K mg "pieces_at" sPiecesAt ["lexicon", "alone", "signs", "place"] c2
  standsAt : DefAt K mg "stands_at" sStandsAt ["word", "signs", "place"]
  byItself : DefAt K mg "by_itself" sByItself ["sound", "alone"]
  edge : DefAt K mg "edge" sEdge []
  howMany : DefAt K mg "how_many" sHowMany ["pieces"]
  wayBack : DefAt K mg "way_back" sWayBack ["number", "pieces", "joins"]
  rowsOf : DefAt K mg "rows_of" sRowsOf ["pieces", "joins"]
  costsFrom : DefAt K mg "costs_from" sCostsFrom ["piece", "followers", "rows", "joins"]
  piecesOfRank : DefAt K mg "pieces_of_rank" sPiecesOfRank ["rank", "pieces", "rows"]
  pieceOfRank : DefAt K mg "piece_of_rank" sPieceOfRank ["rank", "pieces", "rows"]
  checkBytes : DefAt K mg "check_bytes" sCheckBytes ["t"]
  checkSigns : DefAt K mg "check_signs" sCheckSigns ["s"]
  callAt : DefAt K mg "call_at" sCallAt ["calls", "place"]
  answerOr : DefAt K mg "answer_or_refusal" sAnswerOrRefusal ["keeper", "number", "i", "row"]
  answerOf : DefAt K mg "answer_of" sAnswerOf ["keeper", "number", "i", "row"]
  numbersOfWay : DefAt K mg "numbers_of_way" sNumbersOfWay ["way"]
  numbersOfReading : DefAt K mg "numbers_of_reading" sNumbersOfReading ["way"]
  answers : RowDef K mg "answers" sAnswers ["calls"]
theorem has_of {base : Heap} {CX : CXT} {k : Nat} {x : Str} {st : Stmt} {ps : List Str} {sp : Sp} (d : DefAt K mg x st ps) (h : ∀ f fd, Fun K x x st f fd → FnOk P w K mg base CX k f fd ps sp) : Has P w K mg base CX k x ps sp := by
  obtain ⟨f, fd, F, m, b⟩ := d
  exact ⟨f, fd, h f fd F, m, F.kp, b⟩
theorem hasC_of {base : Heap} {CX : CXT} {k : Nat} {x : Str} {st : Stmt} {ps : List Str} {sp : Sp} {c : Addr} (d : DefCAt K mg x st ps c) (h : ∀ f fd, FunC K x x st f fd c → FnOk P w K mg base CX k f fd ps sp) : Has P w K mg base CX k x ps sp := by
  obtain ⟨f, fd, F, m, b⟩ := d
  exact ⟨f, fd, h f fd F, m, F.kp, b⟩
theorem all_ok {CW CJ CP CY CK fa c1 c2 P1 P2 : Addr} {e : Errs} (t : Top K mg CW CJ CP CY CK e c1 c2) (n12 : P1 ≠ P2) (hfa : mg "answers" = some (.ref fa)) :
    ∃ fd : FuncData, (∀ (s : Shared) (us : List Value), us.length = (["calls"] : List Str).length → BindsTo s fd ⟨us, []⟩ ((["calls"] : List Str).zip us)) ∧
      ∀ base : Heap, K.In base → base.Ns mainGlobals mg → (∀ p ∈ [(c1, P1), (c2, P2)], TabB base mg p.1 p.2) → FnOk P w K mg base CX0 11 fa fd ["calls"] (spAnswers K (labels P1 P2)) := by
  obtain ⟨fA, fdA, FA, mA, bA⟩ := t.answers
  have ea := hfa.symm.trans mA
  cases ea
  refine ⟨fdA, bA, fun base _ _ hTB => ?_⟩
  have TB1 := hTB _ List.mem_cons_self
  have TB2 := hTB _ (List.mem_cons_of_mem _ List.mem_cons_self)
  obtain ⟨fF, fdF, TF, FF, bF⟩ := t.faulty
  have okF := ok_faultyInit (P := P) (w := w) (base := base) FF t.G TF
  obtain ⟨fW, fdW, FW, MW, bW⟩ := t.iWord
  have okW := ok_wordInit (P := P) (w := w) (base := base) FW t.TW
  obtain ⟨fJ, fdJ, FJ, MJ, bJ⟩ := t.iJoins
  have okJ := ok_joinsInit (P := P) (w := w) (base := base) FJ t.TJ
  obtain ⟨fP, fdP, FP, MP, bP⟩ := t.iPiece
  have okP := ok_pieceInit (P := P) (w := w) (base := base) FP t.TP
  obtain ⟨fY, fdY, FY, MY, bY⟩ := t.iWay
  have okY := ok_wayInit (P := P) (w := w) (base := base) FY t.TY
  obtain ⟨fKb, fdKb, FKb, mKb, bKb⟩ := t.keeps
  have okKb := ok_keepsBounds (P := P) (w := w) (base := base) FKb t.G t.TW
  obtain ⟨fBt, fdBt, FBt, mBt, bBt⟩ := t.between
  have okBt := ok_between (P := P) (w := w) (base := base) FBt t.TJ
  have hPartsAt := has_of (P := P) (w := w) (base := base) t.partsAt fun f fd F => ok_partsAt F t.G
  have hPartsOf := has_of t.partsOf fun f fd F => ok_partsOf F t.G hPartsAt
  have hLinesOf := has_of t.linesOf fun f fd F => ok_linesOf F t.G hPartsAt
  have hNumberOf := has_of (P := P) (w := w) (base := base) t.numberOf fun f fd F => ok_numberOf F t.G
  have hWithTail := has_of (P := P) (w := w) (base := base) (mg := mg) t.withTail fun f fd F => ok_withTail F
  have hIsCharacter := has_of (P := P) (w := w) (base := base) (mg := mg) t.isCharacter fun f fd F => ok_isCharacter F
  have hMayStand := has_of (P := P) (w := w) (base := base) (mg := mg) t.mayStand fun f fd F => ok_mayStand F
  have hCharacterAt := has_of t.characterAt fun f fd F => ok_characterAt F t.G t.forms hWithTail hIsCharacter
  have hCharactersOf := has_of t.charactersOf fun f fd F => ok_charactersOf F t.G hCharacterAt
  have hRowOf := has_of t.rowOf fun f fd F => ok_rowOf F t.G hCharactersOf hMayStand
  have hWordOf := has_of t.wordOf fun f fd F => ok_wordOf F t.G t.TW MW okW bW hPartsOf hRowOf hNumberOf
  have hKind := has_of t.kindOfFault fun f fd F => ok_kind F t.G t.TW mKb okKb bKb
  have hInOrder := hasC_of (P := P) (w := w) t.inOrder fun f fd F => ok_inOrder (T := labels P1 P2) F t.G t.TW TB1 List.mem_cons_self (label1 n12)
  have hWordsOf := has_of t.wordsOf fun f fd F => ok_wordsOf F t.G t.TW TF okF bF hLinesOf hWordOf hKind hInOrder
  have hNumbersOf := has_of t.numbersOf fun f fd F => ok_numbersOf F t.G TF okF bF hPartsOf hNumberOf
  have hAloneOf := has_of t.aloneOf fun f fd F => ok_aloneOf F t.G TF okF bF hNumbersOf
  have hNewJoins := has_of t.newJoins fun f fd F => ok_newJoins F t.G t.TJ MJ okJ bJ
  have hWithoutFree := has_of (P := P) (w := w) (base := base) t.withoutFree fun f fd F => ok_withoutFree F t.G
  have hJoinsOf := has_of t.joinsOf fun f fd F => ok_joinsOf F t.G t.TJ TF okF bF MJ okJ bJ hLinesOf hAloneOf hNumbersOf hWithoutFree
  have hCheckBytes := has_of (P := P) (w := w) (base := base) t.checkBytes fun f fd F => ok_checkBytes F t.G t.BT
  have hByItself := has_of t.byItself fun f fd F => ok_byItself F t.TP t.TW MP MW okP bP okW bW
  have hEdge := has_of t.edge fun f fd F => ok_edge F t.TP t.TW MP MW okP bP okW bW
  have hStandsAt := has_of (P := P) (w := w) (base := base) t.standsAt fun f fd F => ok_standsAt F t.G t.TW
  have hPiecesAt := hasC_of t.piecesAt fun f fd F => ok_piecesAt (T := labels P1 P2) F t.G t.TP t.TW MP okP bP hStandsAt hByItself TB2 (List.mem_cons_of_mem _ List.mem_cons_self) (label2 n12)
  have hPiecesOf := has_of t.piecesOf fun f fd F => ok_piecesOf F t.G hPiecesAt
  have hHowMany := has_of (P := P) (w := w) (base := base) t.howMany fun f fd F => ok_howMany F t.G t.TP t.TW
  have hCostsFrom := has_of t.costsFrom fun f fd F => ok_costsFrom F t.G t.TP t.TW t.TJ mBt okBt bBt
  have hRowsOf := has_of t.rowsOf fun f fd F => ok_rowsOf F t.G t.TP t.TW hEdge hCostsFrom
  have hPieceOfRank := has_of (P := P) (w := w) (base := base) t.pieceOfRank fun f fd F => ok_pieceOfRank (C := CP) (CW := CW) F t.G
  have hPiecesOfRank := has_of t.piecesOfRank fun f fd F => ok_piecesOfRank F t.G t.TP t.TW hPieceOfRank
  have hWayBack := has_of t.wayBack fun f fd F => ok_wayBack F t.G t.TY MY okY bY hEdge hCostsFrom hRowsOf hPiecesOfRank
  have hCheckSigns := has_of t.checkSigns fun f fd F => ok_checkSigns F t.G t.BT t.BN hIsCharacter
  obtain ⟨f1, fd1, F1, M1, b1⟩ := t.iKeeper
  have ok1 := ok_keeperInit (CW := CW) F1 t.TK hNewJoins
  obtain ⟨f2, fd2, F2, m2, b2⟩ := t.begin_
  have ok2 := ok_begin (CW := CW) F2 t.TK hNewJoins
  obtain ⟨f3, fd3, F3, m3, b3⟩ := t.takeWords
  have ok3 := ok_takeWords (CJ := CJ) F3 t.G t.TK hCheckBytes hWordsOf
  obtain ⟨f4, fd4, F4, m4, b4⟩ := t.takeJoins
  have ok4 := ok_takeJoins (CW := CW) (T := labels P1 P2) F4 t.G t.TK t.TJ hCheckBytes hJoinsOf
  obtain ⟨f5, fd5, F5, m5, b5⟩ := t.piecesFor
  have ok5 := ok_piecesFor F5 t.G t.TK t.TJ t.BM hCheckSigns hPiecesOf hHowMany
  obtain ⟨f6, fd6, F6, m6, b6⟩ := t.countWays
  have ok6 := ok_countWays F6 t.TK m5 ok5 b5 hHowMany
  obtain ⟨f7, fd7, F7, m7, b7⟩ := t.nthWay
  have ok7 := ok_nthWay F7 t.TK t.BS m5 ok5 b5 hHowMany hWayBack
  have hNumbersOfWay := has_of (P := P) (w := w) (base := base) t.numbersOfWay fun f fd F => ok_numbersOfWay F t.G t.TY t.TP t.TW
  have hNumbersOfReading := has_of (P := P) (w := w) (base := base) t.numbersOfReading fun f fd F => ok_numbersOfReading F t.G t.TY t.TP t.TW
  have hAnswerOf := has_of t.answerOf fun f fd F => ok_answerOf F t.G t.TK m2 ok2 b2 m3 ok3 b3 m4 ok4 b4 m6 ok6 b6 m7 ok7 b7 hNumbersOfWay hNumbersOfReading
  have hAnswerOr := has_of t.answerOr fun f fd F => ok_answerOr F t.TE hAnswerOf
  have hCallAt := has_of (P := P) (w := w) (base := base) t.callAt fun f fd F => ok_callAt F t.G
  exact ok_answers FA t.G t.TK M1 ok1 b1 hCallAt hAnswerOr
end Say
set_option Elab.async false
open PySem PySem.W PyProof.Rows
set_option maxRecDepth 100000 in
set_option maxHeartbeats 16000000 in
theorem PySem.Challenge.cw_sayback_s01_answers_holds : PySem.Challenge.rw_sayback_s01_answers.Holds := by
  w_on; k_headS; (case hw => exact ⟨[.list []], by decide +kernel, by decide +kernel⟩)
  k_fillS
  refine SayT.walk_tables (r := PySem.Challenge.rw_sayback_s01_answers) (k := 11) (CX := fun _ => L2.CX0) (ps := ["calls"]) (sp := fun w => Say.spAnswers (PySem.Challenge.cw_sayback_s01_answers_holds.heap_1 w.params) (Say.labels 269 302)) (cs := [(273, 269), (304, 302)]) (by decide +kernel) rfl rfl ⟨rfl, by decide, by decide⟩ (fun w h Y => PySem.W.kIn_of Y) ?T ?nT ?C ?F ?S (fun _ _ _ _ _ z => z)
  case F =>
    intro w mg fa h Y KX G hmg
    refine Say.all_ok (CW := 239) (CJ := 178) (CP := 291) (CY := 343) (CK := 440) (c1 := 273) (c2 := 304) (e := ⟨92, 105, 125, 138, 151⟩) ?_ (by decide) hmg
    refine' { G := ?fG, forms := ?fforms, TW := ?fTW, TJ := ?fTJ, TP := ?fTP, TY := ?fTY, TK := ?fTK, BT := ?fBT, BN := ?fBN, BM := ?fBM, BS := ?fBS, TE := ?fTE, faulty := ?ffaulty, iWord := ?fiWord, keeps := ?fkeeps, iJoins := ?fiJoins, between := ?fbetween, iPiece := ?fiPiece, iWay := ?fiWay, iKeeper := ?fiKeeper, begin_ := ?fbegin_, takeWords := ?ftakeWords, takeJoins := ?ftakeJoins, countWays := ?fcountWays, nthWay := ?fnthWay, piecesFor := ?fpiecesFor, isCharacter := ?fisCharacter, mayStand := ?fmayStand, charactersOf := ?fcharactersOf, characterAt := ?fcharacterAt, withTail := ?fwithTail, linesOf := ?flinesOf, partsOf := ?fpartsOf, partsAt := ?fpartsAt, numberOf := ?fnumberOf, newJoins := ?fnewJoins, joinsOf := ?fjoinsOf, aloneOf := ?faloneOf, numbersOf := ?fnumbersOf, withoutFree := ?fwithoutFree, wordsOf := ?fwordsOf, kindOfFault := ?fkindOfFault, wordOf := ?fwordOf, rowOf := ?frowOf, inOrder := ?finOrder, piecesOf := ?fpiecesOf, piecesAt := ?fpiecesAt, standsAt := ?fstandsAt, byItself := ?fbyItself, edge := ?fedge, howMany := ?fhowMany, wayBack := ?fwayBack, rowsOf := ?frowsOf, costsFrom := ?fcostsFrom, piecesOfRank := ?fpiecesOfRank, pieceOfRank := ?fpieceOfRank, checkBytes := ?fcheckBytes, checkSigns := ?fcheckSigns, callAt := ?fcallAt, answerOr := ?fanswerOr, answerOf := ?fanswerOf, numbersOfWay := ?fnumbersOfWay, numbersOfReading := ?fnumbersOfReading, answers := ?fanswers }
    case fG =>
      refine' { enumerate := ?genumerate, len := ?glen, min := ?gmin, max := ?gmax, all := ?gall, tuple := ?gtuple, sorted := ?gsorted, exc := ?gexc, range := ?grange, zip := ?gzip, sum := ?gsum, value := ?gvalue, lineEnd := ?glineEnd, blank := ?gblank, digit0 := ?gdigit0, digit9 := ?gdigit9, above := ?gabove, bytes := ?gbytes, words := ?gwords, characters := ?gcharacters, sort := ?gsort, cost := ?gcost, begin := ?gbegin, wordsC := ?gwordsC, joinsC := ?gjoinsC, manyC := ?gmanyC, nthC := ?gnthC, readingC := ?greadingC, signs := ?gsigns, ways := ?gways }
      (case genumerate => refine' PySem.W.mg_none_of KX G ?a; (case a => k_is))
      (case glen => refine' PySem.W.mg_none_of KX G ?a; (case a => k_is))
      (case gmin => refine' PySem.W.mg_none_of KX G ?a; (case a => k_is))
      (case gmax => refine' PySem.W.mg_none_of KX G ?a; (case a => k_is))
      (case gall => refine' PySem.W.mg_none_of KX G ?a; (case a => k_is))
      (case gtuple => refine' PySem.W.mg_none_of KX G ?a; (case a => k_is))
      (case gsorted => refine' PySem.W.mg_none_of KX G ?a; (case a => k_is))
      (case gexc => refine' PySem.W.mg_none_of KX G ?a; (case a => k_is))
      (case grange => refine' PySem.W.mg_none_of KX G ?a; (case a => k_is))
      (case gzip => refine' PySem.W.mg_none_of KX G ?a; (case a => k_is))
      (case gsum => refine' PySem.W.mg_none_of KX G ?a; (case a => k_is))
      (case gvalue => refine' PySem.W.mg_none_of KX G ?a; (case a => k_is))
      (case glineEnd => refine' Say.num_mk KX G ?a; (case a => k_is))
      (case gblank => refine' Say.num_mk KX G ?a; (case a => k_is))
      (case gdigit0 => refine' Say.num_mk KX G ?a; (case a => k_is))
      (case gdigit9 => refine' Say.num_mk KX G ?a; (case a => k_is))
      (case gabove => refine' Say.num_mk KX G ?a; (case a => k_is))
      (case gbytes => refine' Say.num_mk KX G ?a; (case a => k_is))
      (case gwords => refine' Say.num_mk KX G ?a; (case a => k_is))
      (case gcharacters => refine' Say.num_mk KX G ?a; (case a => k_is))
      (case gsort => refine' Say.num_mk KX G ?a; (case a => k_is))
      (case gcost => refine' Say.num_mk KX G ?a; (case a => k_is))
      (case gbegin => refine' Say.num_mk KX G ?a; (case a => k_is))
      (case gwordsC => refine' Say.num_mk KX G ?a; (case a => k_is))
      (case gjoinsC => refine' Say.num_mk KX G ?a; (case a => k_is))
      (case gmanyC => refine' Say.num_mk KX G ?a; (case a => k_is))
      (case gnthC => refine' Say.num_mk KX G ?a; (case a => k_is))
      (case greadingC => refine' Say.num_mk KX G ?a; (case a => k_is))
      (case gsigns => refine' Say.num_mk KX G ?a; (case a => k_is))
      (case gways => refine' Say.num_mk KX G ?a; (case a => k_is))
    case fforms =>
      refine' ⟨19, [15, 16, 17, 18], PySem.W.mg_of KX G ?a, ?b, .cons ?c (.cons ?d (.cons ?e (.cons ?f .nil)))⟩
      (case a => k_is)
      (case b => refine' Say.kt_mk ?l ?s ?v; (case l => k_is); (case s => decide); (case v => exact .cons rfl (.cons rfl (.cons rfl (.cons rfl .nil)))))
      (case c => refine' Say.kt_mk ?l ?s ?v; (case l => k_is); (case s => decide); (case v => exact .cons ⟨_, rfl⟩ (.cons ⟨_, rfl⟩ (.cons ⟨_, rfl⟩ (.cons ⟨_, rfl⟩ .nil)))))
      (case d => refine' Say.kt_mk ?l ?s ?v; (case l => k_is); (case s => decide); (case v => exact .cons ⟨_, rfl⟩ (.cons ⟨_, rfl⟩ (.cons ⟨_, rfl⟩ (.cons ⟨_, rfl⟩ .nil)))))
      (case e => refine' Say.kt_mk ?l ?s ?v; (case l => k_is); (case s => decide); (case v => exact .cons ⟨_, rfl⟩ (.cons ⟨_, rfl⟩ (.cons ⟨_, rfl⟩ (.cons ⟨_, rfl⟩ .nil)))))
      (case f => refine' Say.kt_mk ?l ?s ?v; (case l => k_is); (case s => decide); (case v => exact .cons ⟨_, rfl⟩ (.cons ⟨_, rfl⟩ (.cons ⟨_, rfl⟩ (.cons ⟨_, rfl⟩ .nil)))))
    case fTW =>
      refine' { gC := PySem.W.mg_of KX G ?a, cl := ⟨?b1, ?b2, ?b3, ?b4⟩, n1 := ?m1, n2 := ?m2, n3 := ?m3, n4 := ?m4, n5 := ?m5 }
      (case a => k_is); (case b1 => k_is); (case b2 => k_is); (case b3 => k_is); (case b4 => k_is)
      (case m1 => show PySem.W.findIn _ _ _ = _; k_is); (case m2 => show PySem.W.findIn _ _ _ = _; k_is); (case m3 => show PySem.W.findIn _ _ _ = _; k_is); (case m4 => show PySem.W.findIn _ _ _ = _; k_is); (case m5 => show PySem.W.findIn _ _ _ = _; k_is)
    case fTJ =>
      refine' { gC := PySem.W.mg_of KX G ?a, cl := ⟨?b1, ?b2, ?b3, ?b4⟩, n1 := ?m1, n2 := ?m2 }
      (case a => k_is); (case b1 => k_is); (case b2 => k_is); (case b3 => k_is); (case b4 => k_is)
      (case m1 => show PySem.W.findIn _ _ _ = _; k_is); (case m2 => show PySem.W.findIn _ _ _ = _; k_is)
    case fTP =>
      refine' { gC := PySem.W.mg_of KX G ?a, cl := ⟨?b1, ?b2, ?b3, ?b4⟩, n1 := ?m1, n2 := ?m2 }
      (case a => k_is); (case b1 => k_is); (case b2 => k_is); (case b3 => k_is); (case b4 => k_is)
      (case m1 => show PySem.W.findIn _ _ _ = _; k_is); (case m2 => show PySem.W.findIn _ _ _ = _; k_is)
    case fTY =>
      refine' { gC := PySem.W.mg_of KX G ?a, cl := ⟨?b1, ?b2, ?b3, ?b4⟩, n1 := ?m1, n2 := ?m2 }
      (case a => k_is); (case b1 => k_is); (case b2 => k_is); (case b3 => k_is); (case b4 => k_is)
      (case m1 => show PySem.W.findIn _ _ _ = _; k_is); (case m2 => show PySem.W.findIn _ _ _ = _; k_is)
    case fTK =>
      refine' { gC := PySem.W.mg_of KX G ?a, cl := ⟨?b1, ?b2, ?b3, ?b4⟩, n1 := ?m1, n2 := ?m2 }
      (case a => k_is); (case b1 => k_is); (case b2 => k_is); (case b3 => k_is); (case b4 => k_is)
      (case m1 => show PySem.W.findIn _ _ _ = _; k_is); (case m2 => show PySem.W.findIn _ _ _ = _; k_is)
    case fBT =>
      refine' { gC := PySem.W.mg_of KX G ?a, xC := ?x, kC := ?k, bC := ?b, tC := ?t }
      (case a => k_is); (case x => k_exc); (case k => k_is); (case b => k_is); (case t => k_is)
    case fBN =>
      refine' { gC := PySem.W.mg_of KX G ?a, xC := ?x, kC := ?k, bC := ?b, tC := ?t }
      (case a => k_is); (case x => k_exc); (case k => k_is); (case b => k_is); (case t => k_is)
    case fBM =>
      refine' { gC := PySem.W.mg_of KX G ?a, xC := ?x, kC := ?k, bC := ?b, tC := ?t }
      (case a => k_is); (case x => k_exc); (case k => k_is); (case b => k_is); (case t => k_is)
    case fBS =>
      refine' { gC := PySem.W.mg_of KX G ?a, xC := ?x, kC := ?k, bC := ?b, tC := ?t }
      (case a => k_is); (case x => k_exc); (case k => k_is); (case b => k_is); (case t => k_is)
    case fTE =>
      refine' { gT := PySem.W.mg_of KX G ?gT, gN := PySem.W.mg_of KX G ?gN, gF := PySem.W.mg_of KX G ?gF, gM := PySem.W.mg_of KX G ?gM, gS := PySem.W.mg_of KX G ?gS, tt := ?tt, nt := ?nt, nn := ?nn, ft := ?ft, fn := ?fn, ff := ?ff, mt := ?mt, mn := ?mn, mf := ?mf, mm := ?mm, st := ?st, sn := ?sn, sf := ?sf, sm := ?sm, ss := ?ss, xf := ⟨?x1, ?x2, ?x3, ?x4⟩, nLine := ?n1, nKind := ?n2 }
      (case gT => k_is); (case gN => k_is); (case gF => k_is); (case gM => k_is); (case gS => k_is)
      (case tt => refine' Say.exm_of ?a ?b ?c ?d; (case a => k_is); (case b => k_is); (case c => k_is); (case d => k_is))
      (case nt => refine' Say.exm_of ?a ?b ?c ?d; (case a => k_is); (case b => k_is); (case c => k_is); (case d => k_is))
      (case nn => refine' Say.exm_of ?a ?b ?c ?d; (case a => k_is); (case b => k_is); (case c => k_is); (case d => k_is))
      (case ft => refine' Say.exm_of ?a ?b ?c ?d; (case a => k_is); (case b => k_is); (case c => k_is); (case d => k_is))
      (case fn => refine' Say.exm_of ?a ?b ?c ?d; (case a => k_is); (case b => k_is); (case c => k_is); (case d => k_is))
      (case ff => refine' Say.exm_of ?a ?b ?c ?d; (case a => k_is); (case b => k_is); (case c => k_is); (case d => k_is))
      (case mt => refine' Say.exm_of ?a ?b ?c ?d; (case a => k_is); (case b => k_is); (case c => k_is); (case d => k_is))
      (case mn => refine' Say.exm_of ?a ?b ?c ?d; (case a => k_is); (case b => k_is); (case c => k_is); (case d => k_is))
      (case mf => refine' Say.exm_of ?a ?b ?c ?d; (case a => k_is); (case b => k_is); (case c => k_is); (case d => k_is))
      (case mm => refine' Say.exm_of ?a ?b ?c ?d; (case a => k_is); (case b => k_is); (case c => k_is); (case d => k_is))
      (case st => refine' Say.exm_of ?a ?b ?c ?d; (case a => k_is); (case b => k_is); (case c => k_is); (case d => k_is))
      (case sn => refine' Say.exm_of ?a ?b ?c ?d; (case a => k_is); (case b => k_is); (case c => k_is); (case d => k_is))
      (case sf => refine' Say.exm_of ?a ?b ?c ?d; (case a => k_is); (case b => k_is); (case c => k_is); (case d => k_is))
      (case sm => refine' Say.exm_of ?a ?b ?c ?d; (case a => k_is); (case b => k_is); (case c => k_is); (case d => k_is))
      (case ss => refine' Say.exm_of ?a ?b ?c ?d; (case a => k_is); (case b => k_is); (case c => k_is); (case d => k_is))
      (case x1 => k_is); (case x2 => k_is); (case x3 => k_is); (case x4 => k_is); (case n1 => k_is); (case n2 => k_is)
    case ffaulty =>
      refine' Say.faultAt_mk KX G ?a ?x ?sa ?eC ?tC ?kC ?n1 ?n2 ?vE ?i ?t ?l ?c ?k (fun _ _ _ _ _ _ us hl => match us, hl with | [_, _, _], _ => rfl)
      (case a => k_is); (case x => k_is); (case sa => k_is); (case eC => k_is); (case tC => k_is); (case kC => k_is); (case n1 => k_is); (case n2 => k_is); (case vE => k_is); (case i => k_is); (case t => k_is); (case l => k_is); (case c => k_is); (case k => k_is)
    case fiWord =>
      refine' Say.initAt_mk ?a ?i ?l ?c ?k ?mk ?kc (fun _ _ _ _ _ _ us hl => match us, hl with | [_, _, _, _, _, _], _ => rfl)
      (case a => k_is); (case i => k_is); (case l => k_is); (case c => k_is); (case k => k_is); (case mk => k_is); (case kc => k_is)
    case fkeeps =>
      refine' Say.methAt_mk ?a ?i ?l ?c ?k (fun _ _ _ _ _ _ us hl => match us, hl with | [_], _ => rfl)
      (case a => k_is); (case i => k_is); (case l => k_is); (case c => k_is); (case k => k_is)
    case fiJoins =>
      refine' Say.initAt_mk ?a ?i ?l ?c ?k ?mk ?kc (fun _ _ _ _ _ _ us hl => match us, hl with | [_, _, _], _ => rfl)
      (case a => k_is); (case i => k_is); (case l => k_is); (case c => k_is); (case k => k_is); (case mk => k_is); (case kc => k_is)
    case fbetween =>
      refine' Say.methAt_mk ?a ?i ?l ?c ?k (fun _ _ _ _ _ _ us hl => match us, hl with | [_, _, _], _ => rfl)
      (case a => k_is); (case i => k_is); (case l => k_is); (case c => k_is); (case k => k_is)
    case fiPiece =>
      refine' Say.initAt_mk ?a ?i ?l ?c ?k ?mk ?kc (fun _ _ _ _ _ _ us hl => match us, hl with | [_, _, _], _ => rfl)
      (case a => k_is); (case i => k_is); (case l => k_is); (case c => k_is); (case k => k_is); (case mk => k_is); (case kc => k_is)
    case fiWay =>
      refine' Say.initAt_mk ?a ?i ?l ?c ?k ?mk ?kc (fun _ _ _ _ _ _ us hl => match us, hl with | [_, _, _], _ => rfl)
      (case a => k_is); (case i => k_is); (case l => k_is); (case c => k_is); (case k => k_is); (case mk => k_is); (case kc => k_is)
    case fiKeeper =>
      refine' Say.initAt_mk ?a ?i ?l ?c ?k ?mk ?kc (fun _ _ _ _ _ _ us hl => match us, hl with | [_], _ => rfl)
      (case a => k_is); (case i => k_is); (case l => k_is); (case c => k_is); (case k => k_is); (case mk => k_is); (case kc => k_is)
    case fbegin_ =>
      refine' Say.methAt_mk ?a ?i ?l ?c ?k (fun _ _ _ _ _ _ us hl => match us, hl with | [_], _ => rfl)
      (case a => k_is); (case i => k_is); (case l => k_is); (case c => k_is); (case k => k_is)
    case ftakeWords =>
      refine' Say.methAt_mk ?a ?i ?l ?c ?k (fun _ _ _ _ _ _ us hl => match us, hl with | [_, _], _ => rfl)
      (case a => k_is); (case i => k_is); (case l => k_is); (case c => k_is); (case k => k_is)
    case ftakeJoins =>
      refine' Say.methAt_mk ?a ?i ?l ?c ?k (fun _ _ _ _ _ _ us hl => match us, hl with | [_, _], _ => rfl)
      (case a => k_is); (case i => k_is); (case l => k_is); (case c => k_is); (case k => k_is)
    case fcountWays =>
      refine' Say.methAt_mk ?a ?i ?l ?c ?k (fun _ _ _ _ _ _ us hl => match us, hl with | [_, _], _ => rfl)
      (case a => k_is); (case i => k_is); (case l => k_is); (case c => k_is); (case k => k_is)
    case fnthWay =>
      refine' Say.methAt_mk ?a ?i ?l ?c ?k (fun _ _ _ _ _ _ us hl => match us, hl with | [_, _, _], _ => rfl)
      (case a => k_is); (case i => k_is); (case l => k_is); (case c => k_is); (case k => k_is)
    case fpiecesFor =>
      refine' Say.methAt_mk ?a ?i ?l ?c ?k (fun _ _ _ _ _ _ us hl => match us, hl with | [_, _], _ => rfl)
      (case a => k_is); (case i => k_is); (case l => k_is); (case c => k_is); (case k => k_is)
    case fisCharacter =>
      refine' Say.defAt_mk KX G ?a ?l ?c ?k (fun _ _ _ _ _ _ us hl => match us, hl with | [_], _ => rfl)
      (case a => k_is); (case l => k_is); (case c => k_is); (case k => k_is)
    case fmayStand =>
      refine' Say.defAt_mk KX G ?a ?l ?c ?k (fun _ _ _ _ _ _ us hl => match us, hl with | [_], _ => rfl)
      (case a => k_is); (case l => k_is); (case c => k_is); (case k => k_is)
    case fcharactersOf =>
      refine' Say.defAt_mk KX G ?a ?l ?c ?k (fun _ _ _ _ _ _ us hl => match us, hl with | [_], _ => rfl)
      (case a => k_is); (case l => k_is); (case c => k_is); (case k => k_is)
    case fcharacterAt =>
      refine' Say.defAt_mk KX G ?a ?l ?c ?k (fun _ _ _ _ _ _ us hl => match us, hl with | [_, _], _ => rfl)
      (case a => k_is); (case l => k_is); (case c => k_is); (case k => k_is)
    case fwithTail =>
      refine' Say.defAt_mk KX G ?a ?l ?c ?k (fun _ _ _ _ _ _ us hl => match us, hl with | [_, _], _ => rfl)
      (case a => k_is); (case l => k_is); (case c => k_is); (case k => k_is)
    case flinesOf =>
      refine' Say.defAt_mk KX G ?a ?l ?c ?k (fun _ _ _ _ _ _ us hl => match us, hl with | [_], _ => rfl)
      (case a => k_is); (case l => k_is); (case c => k_is); (case k => k_is)
    case fpartsOf =>
      refine' Say.defAt_mk KX G ?a ?l ?c ?k (fun _ _ _ _ _ _ us hl => match us, hl with | [_], _ => rfl)
      (case a => k_is); (case l => k_is); (case c => k_is); (case k => k_is)
    case fpartsAt =>
      refine' Say.defAt_mk KX G ?a ?l ?c ?k (fun _ _ _ _ _ _ us hl => match us, hl with | [_, _], _ => rfl)
      (case a => k_is); (case l => k_is); (case c => k_is); (case k => k_is)
    case fnumberOf =>
      refine' Say.defAt_mk KX G ?a ?l ?c ?k (fun _ _ _ _ _ _ us hl => match us, hl with | [_], _ => rfl)
      (case a => k_is); (case l => k_is); (case c => k_is); (case k => k_is)
    case fnewJoins =>
      refine' Say.defAt_mk KX G ?a ?l ?c ?k (fun _ _ _ _ _ _ us hl => match us, hl with | [], _ => rfl)
      (case a => k_is); (case l => k_is); (case c => k_is); (case k => k_is)
    case fjoinsOf =>
      refine' Say.defAt_mk KX G ?a ?l ?c ?k (fun _ _ _ _ _ _ us hl => match us, hl with | [_], _ => rfl)
      (case a => k_is); (case l => k_is); (case c => k_is); (case k => k_is)
    case faloneOf =>
      refine' Say.defAt_mk KX G ?a ?l ?c ?k (fun _ _ _ _ _ _ us hl => match us, hl with | [_], _ => rfl)
      (case a => k_is); (case l => k_is); (case c => k_is); (case k => k_is)
    case fnumbersOf =>
      refine' Say.defAt_mk KX G ?a ?l ?c ?k (fun _ _ _ _ _ _ us hl => match us, hl with | [_, _, _], _ => rfl)
      (case a => k_is); (case l => k_is); (case c => k_is); (case k => k_is)
    case fwithoutFree =>
      refine' Say.defAt_mk KX G ?a ?l ?c ?k (fun _ _ _ _ _ _ us hl => match us, hl with | [_], _ => rfl)
      (case a => k_is); (case l => k_is); (case c => k_is); (case k => k_is)
    case fwordsOf =>
      refine' Say.defAt_mk KX G ?a ?l ?c ?k (fun _ _ _ _ _ _ us hl => match us, hl with | [_], _ => rfl)
      (case a => k_is); (case l => k_is); (case c => k_is); (case k => k_is)
    case fkindOfFault =>
      refine' Say.defAt_mk KX G ?a ?l ?c ?k (fun _ _ _ _ _ _ us hl => match us, hl with | [_, _, _], _ => rfl)
      (case a => k_is); (case l => k_is); (case c => k_is); (case k => k_is)
    case fwordOf =>
      refine' Say.defAt_mk KX G ?a ?l ?c ?k (fun _ _ _ _ _ _ us hl => match us, hl with | [_], _ => rfl)
      (case a => k_is); (case l => k_is); (case c => k_is); (case k => k_is)
    case frowOf =>
      refine' Say.defAt_mk KX G ?a ?l ?c ?k (fun _ _ _ _ _ _ us hl => match us, hl with | [_], _ => rfl)
      (case a => k_is); (case l => k_is); (case c => k_is); (case k => k_is)
    case finOrder =>
      refine' Say.defCAt_mk KX G ?a ?l ?c ?k (fun _ _ _ _ _ _ us hl => match us, hl with | [_], _ => rfl)
      (case a => k_is); (case l => k_is); (case c => k_is); (case k => k_is)
    case fpiecesOf =>
      refine' Say.defAt_mk KX G ?a ?l ?c ?k (fun _ _ _ _ _ _ us hl => match us, hl with | [_, _, _], _ => rfl)
      (case a => k_is); (case l => k_is); (case c => k_is); (case k => k_is)
    case fpiecesAt =>
      refine' Say.defCAt_mk KX G ?a ?l ?c ?k (fun _ _ _ _ _ _ us hl => match us, hl with | [_, _, _, _], _ => rfl)
      (case a => k_is); (case l => k_is); (case c => k_is); (case k => k_is)
    case fstandsAt =>
      refine' Say.defAt_mk KX G ?a ?l ?c ?k (fun _ _ _ _ _ _ us hl => match us, hl with | [_, _, _], _ => rfl)
      (case a => k_is); (case l => k_is); (case c => k_is); (case k => k_is)
    case fbyItself =>
      refine' Say.defAt_mk KX G ?a ?l ?c ?k (fun _ _ _ _ _ _ us hl => match us, hl with | [_, _], _ => rfl)
      (case a => k_is); (case l => k_is); (case c => k_is); (case k => k_is)
    case fedge =>
      refine' Say.defAt_mk KX G ?a ?l ?c ?k (fun _ _ _ _ _ _ us hl => match us, hl with | [], _ => rfl)
      (case a => k_is); (case l => k_is); (case c => k_is); (case k => k_is)
    case fhowMany =>
      refine' Say.defAt_mk KX G ?a ?l ?c ?k (fun _ _ _ _ _ _ us hl => match us, hl with | [_], _ => rfl)
      (case a => k_is); (case l => k_is); (case c => k_is); (case k => k_is)
    case fwayBack =>
      refine' Say.defAt_mk KX G ?a ?l ?c ?k (fun _ _ _ _ _ _ us hl => match us, hl with | [_, _, _], _ => rfl)
      (case a => k_is); (case l => k_is); (case c => k_is); (case k => k_is)
    case frowsOf =>
      refine' Say.defAt_mk KX G ?a ?l ?c ?k (fun _ _ _ _ _ _ us hl => match us, hl with | [_, _], _ => rfl)
      (case a => k_is); (case l => k_is); (case c => k_is); (case k => k_is)
    case fcostsFrom =>
      refine' Say.defAt_mk KX G ?a ?l ?c ?k (fun _ _ _ _ _ _ us hl => match us, hl with | [_, _, _, _], _ => rfl)
      (case a => k_is); (case l => k_is); (case c => k_is); (case k => k_is)
    case fpiecesOfRank =>
      refine' Say.defAt_mk KX G ?a ?l ?c ?k (fun _ _ _ _ _ _ us hl => match us, hl with | [_, _, _], _ => rfl)
      (case a => k_is); (case l => k_is); (case c => k_is); (case k => k_is)
    case fpieceOfRank =>
      refine' Say.defAt_mk KX G ?a ?l ?c ?k (fun _ _ _ _ _ _ us hl => match us, hl with | [_, _, _], _ => rfl)
      (case a => k_is); (case l => k_is); (case c => k_is); (case k => k_is)
    case fcheckBytes =>
      refine' Say.defAt_mk KX G ?a ?l ?c ?k (fun _ _ _ _ _ _ us hl => match us, hl with | [_], _ => rfl)
      (case a => k_is); (case l => k_is); (case c => k_is); (case k => k_is)
    case fcheckSigns =>
      refine' Say.defAt_mk KX G ?a ?l ?c ?k (fun _ _ _ _ _ _ us hl => match us, hl with | [_], _ => rfl)
      (case a => k_is); (case l => k_is); (case c => k_is); (case k => k_is)
    case fcallAt =>
      refine' Say.defAt_mk KX G ?a ?l ?c ?k (fun _ _ _ _ _ _ us hl => match us, hl with | [_, _], _ => rfl)
      (case a => k_is); (case l => k_is); (case c => k_is); (case k => k_is)
    case fanswerOr =>
      refine' Say.defAt_mk KX G ?a ?l ?c ?k (fun _ _ _ _ _ _ us hl => match us, hl with | [_, _, _, _], _ => rfl)
      (case a => k_is); (case l => k_is); (case c => k_is); (case k => k_is)
    case fanswerOf =>
      refine' Say.defAt_mk KX G ?a ?l ?c ?k (fun _ _ _ _ _ _ us hl => match us, hl with | [_, _, _, _], _ => rfl)
      (case a => k_is); (case l => k_is); (case c => k_is); (case k => k_is)
    case fnumbersOfWay =>
      refine' Say.defAt_mk KX G ?a ?l ?c ?k (fun _ _ _ _ _ _ us hl => match us, hl with | [_], _ => rfl)
      (case a => k_is); (case l => k_is); (case c => k_is); (case k => k_is)
    case fnumbersOfReading =>
      refine' Say.defAt_mk KX G ?a ?l ?c ?k (fun _ _ _ _ _ _ us hl => match us, hl with | [_], _ => rfl)
      (case a => k_is); (case l => k_is); (case c => k_is); (case k => k_is)
    case fanswers =>
      refine' Say.rowDef_mk KX G ?a ?l ?c ?k (fun _ _ _ _ _ _ us hl => match us, hl with | [_], _ => rfl)
      (case a => k_is); (case l => k_is); (case c => k_is); (case k => k_is)
  case T =>
    intro w mean mg mb h Y TT p hp
    have e : p = (273, 269) ∨ p = (304, 302) := by simpa using hp
    rcases e with e | e <;> rw [e]
    · exact (PySem.W.tab_of (x := "in_order") (c := 273) (P := 269) TT (PySem.W.kIn_of Y) rfl (by kernel_rfl)).2
    · exact (PySem.W.tab_of (x := "pieces_at") (c := 304) (P := 302) TT (PySem.W.kIn_of Y) rfl (by kernel_rfl)).2
  case nT =>
    intro w p hp
    have e : p = (273, 269) ∨ p = (304, 302) := by simpa using hp
    rcases e with e | e <;> rw [e]
    · show (PySem.Challenge.cw_sayback_s01_answers_holds.heap_1 w.params).lookup 269 = none
      kernel_rfl
    · show (PySem.Challenge.cw_sayback_s01_answers_holds.heap_1 w.params).lookup 302 = none
      kernel_rfl
  case C =>
    intro w p hp
    have e : p = (273, 269) ∨ p = (304, 302) := by simpa using hp
    rcases e with e | e <;> rw [e]
    · show PySem.W.codeHdIn (PySem.Challenge.cw_sayback_s01_answers_holds.heap_1 w.params) 273 269 = true
      kernel_rfl
    · show PySem.W.codeHdIn (PySem.Challenge.cw_sayback_s01_answers_holds.heap_1 w.params) 304 302 = true
      kernel_rfl
  case S =>
    intro w H xs a hO hwi hask hx
    cases hx with
    | cons h1 h2 =>
      cases h2
      cases h1 with
      | lst hs ha =>
        have e := L2.ints_dw a.1 _ ha
        subst e
        have q : PyWqaibp.answers_asked a.1 = true := hask
        obtain ⟨bs, e1, e2, _, e4, e5⟩ := Say.asked_calls q
        refine ⟨_, bs, rfl, by rw [← e1]; exact hs, e2, e5, Say.tabs_empty (hO _ List.mem_cons_self) (hO _ (List.mem_cons_of_mem _ List.mem_cons_self)), fun H' p hp => ?_⟩
        rw [← e4] at hp
        exact .lst (L2.SqL.of hp) (L2.dw_ints _)
#print axioms PySem.Challenge.cw_sayback_s01_answers_holds
