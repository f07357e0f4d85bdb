import PyProof.Rows.All
import Wide.All
import OpenK.AllK
import Wide.FinOn
import Open.SpecLaws
import KE.OsGo
import HandS.ForSpec
import PyFlatLaws
import HandS.Comp
import HandS.Iter
import HandS.Text
import PySem.Challenge.RW_starcover_s01_answers
set_option Elab.async false
set_option linter.all false
set_option maxRecDepth 100000
set_option maxHeartbeats 2000000
/-! The mathematics of the spellings: what the loops build, against the specification's own words. Plain Lean. -/
namespace Sc
open Rp10

theorem take_more {α : Type} : ∀ {l : List α} {i : Nat} {x : α}, l[i]? = some x → l.take (i + 1) = l.take i ++ [x]
  | [], i, x, h => by simp at h
  | a :: l, 0, x, h => by
    have e : a = x := Option.some.inj h
    subst e
    rfl
  | a :: l, i + 1, x, h => by
    have ih := take_more (l := l) (i := i) (x := x) h
    show a :: l.take (i + 1) = a :: l.take i ++ [x]
    rw [ih]
    rfl
theorem drop_here {α : Type} : ∀ {l : List α} {i : Nat} {x : α}, l[i]? = some x → l.drop i = x :: l.drop (i + 1)
  | [], i, x, h => by simp at h
  | a :: l, 0, x, h => by
    have e : a = x := Option.some.inj h
    subst e
    rfl
  | a :: l, i + 1, x, h => drop_here (l := l) (i := i) (x := x) h

/-! hex -/
theorem hex_more {up : Bool} {s : Bytes} {i b : Nat} (h : s[i]? = some b) :
    hex up (s.take (i + 1)) = hex up (s.take i) ++ [digit up (b / 16), digit up (b % 16)] := by
  unfold hex
  rw [take_more h, List.flatMap_append]
  rfl
theorem hex_length {up : Bool} : ∀ s : Bytes, (hex up s).length = 2 * s.length
  | [] => rfl
  | b :: s => by
    have ih := hex_length (up := up) s
    unfold hex at ih ⊢
    rw [List.flatMap_cons, List.length_append, ih, List.length_cons]
    simp only [List.length_cons, List.length_nil]
    omega

/-! bits -/
theorem bits8_length (b : Nat) : (bits8 b).length = 8 := rfl
theorem bits_length : ∀ s : Bytes, (bits s).length = 8 * s.length
  | [] => rfl
  | b :: s => by
    have ih := bits_length s
    unfold bits at ih ⊢
    rw [List.flatMap_cons, List.length_append, ih, List.length_cons, bits8_length]
    omega
theorem bits_more {s : Bytes} {i b : Nat} (h : s[i]? = some b) : bits (s.take (i + 1)) = bits (s.take i) ++ bits8 b := by
  unfold bits
  rw [take_more h, List.flatMap_append]
  simp
theorem bits8_at (b : Nat) : ∀ {j : Nat}, j < 8 → (bits8 b)[j]? = some (b / 2 ^ (7 - j) % 2)
  | 0, _ => rfl
  | 1, _ => rfl
  | 2, _ => rfl
  | 3, _ => rfl
  | 4, _ => rfl
  | 5, _ => rfl
  | 6, _ => rfl
  | 7, _ => by show some (b % 2) = some (b / 2 ^ 0 % 2); rw [Nat.pow_zero, Nat.div_one]
  | j + 8, h => by omega
theorem bits_le : ∀ {s : Bytes} {x : Nat}, x ∈ bits s → x ≤ 1 := by
  intro s x h
  unfold bits at h
  rw [List.mem_flatMap] at h
  obtain ⟨b, _, hx⟩ := h
  unfold bits8 at hx
  simp only [List.mem_cons, List.not_mem_nil, or_false] at hx
  omega

/-! sixes -/
theorem value_append (l : List Nat) (b : Nat) : value (l ++ [b]) = value l * 2 + b := by
  unfold value
  rw [List.foldl_append]
  simp only [List.foldl_cons, List.foldl_nil]
  omega
theorem value_lt : ∀ (n : Nat) (l : List Nat), l.length = n → (∀ x ∈ l, x ≤ 1) → value l < 2 ^ n
  | 0, l, h, _ => by
    have e : l = [] := List.eq_nil_of_length_eq_zero h
    subst e
    decide
  | n + 1, l, h, hx => by
    have hne : l ≠ [] := by intro e; subst e; simp at h
    have e := List.dropLast_concat_getLast hne
    have hl : l.dropLast.length = n := by rw [List.length_dropLast, h]; rfl
    have ih := value_lt n l.dropLast hl (fun x hx' => hx x (List.dropLast_subset l hx'))
    have hb := hx _ (List.getLast_mem hne)
    rw [← e, value_append, Nat.pow_succ]
    omega
theorem sixes_cons6 (six : List Nat) (h : six.length = 6) (r : List Nat) : sixes (six ++ r) = sign (value six) :: sixes r := by
  match six, h with
  | [a, b, c, d, e, f], _ => rfl
theorem sixes_short {l : List Nat} (h : l.length < 6) : sixes l = [] := by
  match l, h with
  | [], _ => rfl
  | [_], _ => rfl
  | [_, _], _ => rfl
  | [_, _, _], _ => rfl
  | [_, _, _, _], _ => rfl
  | [_, _, _, _, _], _ => rfl
  | _ :: _ :: _ :: _ :: _ :: _ :: r, h => simp only [List.length_cons] at h; omega
theorem sixes_more : ∀ (k : Nat) (l six : List Nat), l.length = 6 * k → six.length = 6 → sixes (l ++ six) = sixes l ++ [sign (value six)]
  | 0, l, six, h, h6 => by
    have e : l = [] := List.eq_nil_of_length_eq_zero (by omega)
    subst e
    have q := sixes_cons6 six h6 []
    rw [List.append_nil] at q
    rw [List.nil_append, q]
    rfl
  | k + 1, l, six, h, h6 => by
    have e : l = l.take 6 ++ l.drop 6 := (List.take_append_drop 6 l).symm
    have h1 : (l.take 6).length = 6 := by rw [List.length_take]; omega
    have h2 : (l.drop 6).length = 6 * k := by rw [List.length_drop]; omega
    rw [e, List.append_assoc, sixes_cons6 _ h1, sixes_cons6 _ h1, sixes_more k _ six h2 h6]
    rfl
/-- a six further -/
theorem sixes_take_more {l : List Nat} {k : Nat} (h : 6 * k + 6 ≤ l.length) :
    sixes (l.take (6 * (k + 1))) = sixes (l.take (6 * k)) ++ [sign (value ((l.drop (6 * k)).take 6))] := by
  have e : l.take (6 * (k + 1)) = l.take (6 * k) ++ (l.drop (6 * k)).take 6 := by
    rw [show 6 * (k + 1) = 6 * k + 6 by omega, List.take_add]
  rw [e]
  refine sixes_more k _ _ ?_ ?_
  · rw [List.length_take]; omega
  · rw [List.length_take, List.length_drop]; omega
theorem sixes_end : ∀ (k : Nat) (l : List Nat), 6 * k ≤ l.length → l.length < 6 * k + 6 → sixes (l.take (6 * k)) = sixes l
  | 0, l, _, h => by
    rw [sixes_short (l := l) (by omega)]
    rfl
  | k + 1, l, h, h' => by
    have e : l = l.take 6 ++ l.drop 6 := (List.take_append_drop 6 l).symm
    have h1 : (l.take 6).length = 6 := by rw [List.length_take]; omega
    have ih := sixes_end k (l.drop 6) (by rw [List.length_drop]; omega) (by rw [List.length_drop]; omega)
    have e2 : l.take (6 * (k + 1)) = l.take 6 ++ (l.drop 6).take (6 * k) := by
      rw [show 6 * (k + 1) = 6 + 6 * k by omega, List.take_add]
    rw [e2, sixes_cons6 _ h1, ih]
    conv => rhs; rw [e, sixes_cons6 _ h1]
theorem sixes_length : ∀ (n : Nat) (l : List Nat), l.length ≤ n → (sixes l).length = l.length / 6
  | 0, l, h => by
    rw [sixes_short (l := l) (by omega)]
    show 0 = _
    omega
  | n + 1, l, h => by
    by_cases c : l.length < 6
    · rw [sixes_short c]
      show 0 = _
      omega
    · have e : l = l.take 6 ++ l.drop 6 := (List.take_append_drop 6 l).symm
      have h1 : (l.take 6).length = 6 := by rw [List.length_take]; omega
      have ih := sixes_length n (l.drop 6) (by rw [List.length_drop]; omega)
      rw [List.length_drop] at ih
      have q : sixes l = sign (value (l.take 6)) :: sixes (l.drop 6) := by
        conv => lhs; rw [e, sixes_cons6 _ h1]
      rw [q, List.length_cons, ih]
      omega

/-! which spellings -/
theorem spellings_le (m : Nat) (s : Bytes) (hs : s.length ≤ 12) : ∀ p ∈ spellings m s, p.length ≤ 24 := by
  intro p hp
  unfold spellings at hp
  simp only [List.mem_append] at hp
  rcases hp with h | h | h | h
  · split at h
    · simp only [List.mem_cons, List.not_mem_nil, or_false] at h; subst h; omega
    · simp at h
  · split at h
    · simp only [List.mem_cons, List.not_mem_nil, or_false] at h; subst h; rw [hex_length]; omega
    · simp at h
  · split at h
    · simp only [List.mem_cons, List.not_mem_nil, or_false] at h; subst h; rw [hex_length]; omega
    · simp at h
  · split at h
    · rw [List.mem_filter, List.mem_map] at h
      obtain ⟨⟨k, _, rfl⟩, _⟩ := h
      unfold core
      rw [sixes_length _ _ (Nat.le_refl _), List.length_drop, bits_length]
      omega
    · simp at h
theorem spellings_few (m : Nat) (s : Bytes) : (spellings m s).length ≤ 6 := by
  unfold spellings
  simp only [List.length_append]
  have h1 : ∀ (c : Bool) (x : Bytes), (if c = true then [x] else []).length ≤ 1 := by intro c x; cases c <;> simp
  have a1 := h1 (bit m 0) s
  have a2 := h1 (bit m 1) (hex false s)
  have a3 := h1 (bit m 2) (hex true s)
  have a4 : (if bit m 3 = true then (([0, 4, 2].map fun k => core k s).filter fun c => decide (CORE ≤ c.length)) else []).length ≤ 3 := by
    split
    · exact Nat.le_trans (List.length_filter_le _ _) (by simp)
    · simp
  omega
end Sc

/-! The mathematics of what is covered, settled, shown. Plain Lean. -/
namespace Sc
open Rp10

/-! prefixes by slices -/
theorem pre_iff {p t : List Nat} : p.isPrefixOf t = true ↔ t.take p.length = p := by
  rw [List.isPrefixOf_iff_prefix, List.prefix_iff_eq_take]
  exact ⟨fun h => h.symm, fun h => h.symm⟩

/-! longest -/
theorem lt_longest_go {t : Bytes} {k : Nat} : ∀ (ps : List Bytes) (n : Nat),
    k < ps.foldl (fun n p => if p.isPrefixOf t = true then max n p.length else n) n ↔ k < n ∨ ∃ p ∈ ps, p.isPrefixOf t = true ∧ k < p.length
  | [], n => by simp
  | p :: ps, n => by
    rw [List.foldl_cons, lt_longest_go ps]
    by_cases c : p.isPrefixOf t = true
    · rw [if_pos c]
      constructor
      · rintro (h | ⟨q, hq, h1, h2⟩)
        · by_cases d : k < n
          · exact .inl d
          · exact .inr ⟨p, List.mem_cons_self, c, by omega⟩
        · exact .inr ⟨q, List.mem_cons_of_mem _ hq, h1, h2⟩
      · rintro (h | ⟨q, hq, h1, h2⟩)
        · exact .inl (by omega)
        · rcases List.mem_cons.mp hq with rfl | hq
          · exact .inl (by omega)
          · exact .inr ⟨q, hq, h1, h2⟩
    · rw [if_neg c]
      constructor
      · rintro (h | ⟨q, hq, h1, h2⟩)
        · exact .inl h
        · exact .inr ⟨q, List.mem_cons_of_mem _ hq, h1, h2⟩
      · rintro (h | ⟨q, hq, h1, h2⟩)
        · exact .inl h
        · rcases List.mem_cons.mp hq with rfl | hq
          · exact absurd h1 c
          · exact .inr ⟨q, hq, h1, h2⟩
theorem lt_longest {ps : List Bytes} {t : Bytes} {k : Nat} : k < longest ps t ↔ ∃ p ∈ ps, p.isPrefixOf t = true ∧ k < p.length := by
  unfold longest
  rw [lt_longest_go]
  simp

/-- a byte of a text is covered -/
def Cov (ps : List Bytes) (t : Bytes) (i : Nat) : Prop := ∃ s p, p ∈ ps ∧ p.isPrefixOf (t.drop s) = true ∧ s ≤ i ∧ i < s + p.length
theorem covered_length (ps : List Bytes) : ∀ (t : Bytes) (n : Nat), (covered ps n t).length = t.length
  | [], _ => rfl
  | b :: r, n => by
    show (covered ps _ r).length + 1 = r.length + 1
    rw [covered_length ps r]
theorem covered_at (ps : List Bytes) : ∀ (t : Bytes) (n i : Nat), i < t.length → ((covered ps n t)[i]? = some true ↔ i < n ∨ Cov ps t i)
  | [], _, i, h => by simp at h
  | b :: r, n, 0, _ => by
    show some (decide (0 < max n (longest ps (b :: r)))) = some true ↔ _
    rw [Option.some.injEq, decide_eq_true_eq]
    constructor
    · intro h
      by_cases d : 0 < n
      · exact .inl d
      · obtain ⟨p, h1, h2, h3⟩ := lt_longest.mp (show 0 < longest ps (b :: r) by omega)
        exact .inr ⟨0, p, h1, h2, Nat.le_refl _, by omega⟩
    · rintro (h | ⟨s, p, h1, h2, h3, h4⟩)
      · omega
      · have e : s = 0 := by omega
        subst e
        have := lt_longest.mpr ⟨p, h1, h2, (show 0 < p.length by omega)⟩
        rw [List.drop_zero] at this
        omega
  | b :: r, n, i + 1, h => by
    show (covered ps (max n (longest ps (b :: r)) - 1) r)[i]? = some true ↔ _
    rw [covered_at ps r _ i (by simpa using h)]
    constructor
    · rintro (h | ⟨s, p, h1, h2, h3, h4⟩)
      · by_cases d : i + 1 < n
        · exact .inl d
        · obtain ⟨p, h1, h2, h3⟩ := lt_longest.mp (show i + 1 < longest ps (b :: r) by omega)
          exact .inr ⟨0, p, h1, h2, Nat.zero_le _, by omega⟩
      · exact .inr ⟨s + 1, p, h1, h2, by omega, by omega⟩
    · rintro (h | ⟨s, p, h1, h2, h3, h4⟩)
      · exact .inl (by omega)
      · cases s with
        | zero =>
          have := lt_longest.mpr ⟨p, h1, h2, (show i + 1 < p.length by omega)⟩
          rw [List.drop_zero] at this
          exact .inl (by omega)
        | succ s => exact .inr ⟨s, p, h1, h2, by omega, by omega⟩

/-! marks -/
structure Marks (c : List Bool) (n : Nat) (P : Nat → Prop) : Prop where
  len : c.length = n
  at_ : ∀ i, i < n → (c[i]? = some true ↔ P i)
theorem Marks.none (n : Nat) : Marks (List.replicate n false) n (fun _ => False) := by
  refine ⟨List.length_replicate, fun i h => ?_⟩
  rw [List.getElem?_replicate, if_pos h]
  simp
theorem Marks.congr {c : List Bool} {n : Nat} {P Q : Nat → Prop} (m : Marks c n P) (h : ∀ i, i < n → (P i ↔ Q i)) : Marks c n Q :=
  ⟨m.len, fun i hi => (m.at_ i hi).trans (h i hi)⟩
theorem Marks.set {c : List Bool} {n : Nat} {P : Nat → Prop} (m : Marks c n P) {j : Nat} (hj : j < n) : Marks (c.set j true) n (fun i => P i ∨ i = j) := by
  refine ⟨by rw [List.length_set]; exact m.len, fun i hi => ?_⟩
  by_cases e : j = i
  · subst e
    rw [List.getElem?_set_self (by rw [m.len]; exact hj)]
    simp
  · rw [List.getElem?_set_ne e, m.at_ i hi]
    constructor
    · exact fun h => .inl h
    · rintro (h | h)
      · exact h
      · exact absurd h.symm e
theorem Marks.eq {c d : List Bool} {n : Nat} {P : Nat → Prop} (m : Marks c n P) (q : Marks d n P) : c = d := by
  apply List.ext_getElem?
  intro i
  by_cases h : i < n
  · have h1 : i < c.length := by rw [m.len]; exact h
    have h2 : i < d.length := by rw [q.len]; exact h
    have a := m.at_ i h
    have b := q.at_ i h
    rw [List.getElem?_eq_getElem h1] at a ⊢
    rw [List.getElem?_eq_getElem h2] at b ⊢
    have e := a.trans b.symm
    cases hc : c[i] <;> cases hd : d[i] <;> simp_all
  · rw [List.getElem?_eq_none (by rw [m.len]; omega), List.getElem?_eq_none (by rw [q.len]; omega)]
theorem Marks.covered (ps : List Bytes) (t : Bytes) : Marks (Rp10.covered ps 0 t) t.length (Cov ps t) := by
  refine ⟨covered_length ps t 0, fun i h => ?_⟩
  rw [covered_at ps t 0 i h]
  simp
/-- covered by the first k spellings; and by the k-th where it begins before st; and st .. st + j -/
def CovA (ps : List Bytes) (t : Bytes) (k : Nat) (i : Nat) : Prop := Cov (ps.take k) t i
def CovB (ps : List Bytes) (t : Bytes) (k : Nat) (p : Bytes) (st : Nat) (i : Nat) : Prop :=
  CovA ps t k i ∨ ∃ s, s < st ∧ p.isPrefixOf (t.drop s) = true ∧ s ≤ i ∧ i < s + p.length
def CovC (ps : List Bytes) (t : Bytes) (k : Nat) (p : Bytes) (st j : Nat) (i : Nat) : Prop := CovB ps t k p st i ∨ (st ≤ i ∧ i < st + j)
theorem marks_start (ps : List Bytes) (t : Bytes) : Marks (List.replicate t.length false) t.length (CovA ps t 0) :=
  (Marks.none _).congr fun i _ => by
    unfold CovA Cov
    simp
theorem marks_b0 {c : List Bool} {ps : List Bytes} {t : Bytes} {k : Nat} {p : Bytes} (m : Marks c t.length (CovA ps t k)) : Marks c t.length (CovB ps t k p 0) :=
  m.congr fun i _ => by
    unfold CovB
    simp
theorem marks_c0 {c : List Bool} {ps : List Bytes} {t : Bytes} {k : Nat} {p : Bytes} {st : Nat} (m : Marks c t.length (CovB ps t k p st)) : Marks c t.length (CovC ps t k p st 0) :=
  m.congr fun i _ => by
    unfold CovC
    constructor
    · exact fun h => .inl h
    · rintro (h | h)
      · exact h
      · omega
theorem marks_c {c : List Bool} {ps : List Bytes} {t : Bytes} {k : Nat} {p : Bytes} {st j : Nat} (m : Marks c t.length (CovC ps t k p st j)) (h : st + j < t.length) :
    Marks (c.set (st + j) true) t.length (CovC ps t k p st (j + 1)) :=
  (m.set h).congr fun i _ => by
    unfold CovC
    constructor
    · rintro ((h | h) | h)
      · exact .inl h
      · exact .inr (by omega)
      · exact .inr (by omega)
    · rintro (h | h)
      · exact .inl (.inl h)
      · by_cases e : i = st + j
        · exact .inr e
        · exact .inl (.inr (by omega))
/-- it stands there: all its places are marked -/
theorem marks_b_yes {c : List Bool} {ps : List Bytes} {t : Bytes} {k : Nat} {p : Bytes} {st : Nat} (m : Marks c t.length (CovC ps t k p st p.length)) (h : p.isPrefixOf (t.drop st) = true) :
    Marks c t.length (CovB ps t k p (st + 1)) :=
  m.congr fun i _ => by
    unfold CovC CovB
    constructor
    · rintro ((h1 | ⟨s, a, b, c, d⟩) | h1)
      · exact .inl h1
      · exact .inr ⟨s, by omega, b, c, d⟩
      · exact .inr ⟨st, by omega, h, h1.1, h1.2⟩
    · rintro (h1 | ⟨s, a, b, c, d⟩)
      · exact .inl (.inl h1)
      · by_cases e : s = st
        · subst e; exact .inr ⟨c, d⟩
        · exact .inl (.inr ⟨s, by omega, b, c, d⟩)
theorem marks_b_no {c : List Bool} {ps : List Bytes} {t : Bytes} {k : Nat} {p : Bytes} {st : Nat} (m : Marks c t.length (CovB ps t k p st)) (h : ¬ p.isPrefixOf (t.drop st) = true) :
    Marks c t.length (CovB ps t k p (st + 1)) :=
  m.congr fun i _ => by
    unfold CovB
    constructor
    · rintro (h1 | ⟨s, a, b, c, d⟩)
      · exact .inl h1
      · exact .inr ⟨s, by omega, b, c, d⟩
    · rintro (h1 | ⟨s, a, b, c, d⟩)
      · exact .inl h1
      · by_cases e : s = st
        · subst e; exact absurd b h
        · exact .inr ⟨s, by omega, b, c, d⟩
theorem marks_a {c : List Bool} {ps : List Bytes} {t : Bytes} {k : Nat} {p : Bytes} {n : Nat} (hp : ps[k]? = some p) (hn : (n : Int) = (((t.length : Int) - p.length + 1).toNat : Int)) (m : Marks c t.length (CovB ps t k p n)) :
    Marks c t.length (CovA ps t (k + 1)) :=
  m.congr fun i hi => by
    unfold CovB CovA Cov
    rw [take_more hp]
    constructor
    · rintro (⟨s, q, a, b, c, d⟩ | ⟨s, a, b, c, d⟩)
      · exact ⟨s, q, List.mem_append_left _ a, b, c, d⟩
      · exact ⟨s, p, List.mem_append_right _ (by simp), b, c, d⟩
    · rintro ⟨s, q, a, b, c, d⟩
      rcases List.mem_append.mp a with a | a
      · exact .inl ⟨s, q, a, b, c, d⟩
      · rw [List.mem_singleton] at a
        subst a
        refine .inr ⟨s, ?_, b, c, d⟩
        have hl := (List.isPrefixOf_iff_prefix.mp b).length_le
        rw [List.length_drop] at hl
        omega
theorem marks_end {c : List Bool} {ps : List Bytes} {t : Bytes} (m : Marks c t.length (CovA ps t ps.length)) : c = covered ps 0 t := by
  refine Marks.eq (m.congr fun i _ => ?_) (Marks.covered ps t)
  unfold CovA
  rw [List.take_length]

/-! tail -/
theorem tail_found {ps : List Bytes} : ∀ (t : Bytes) (i : Nat), i < t.length → (∀ j, j < i → open_ ps (t.drop j) = false) → open_ ps (t.drop i) = true → tail ps t = t.length - i
  | [], i, h, _, _ => by simp at h
  | b :: r, 0, _, _, h => by
    rw [List.drop_zero] at h
    show (if open_ ps (b :: r) = true then r.length + 1 else tail ps r) = _
    rw [if_pos h]
    rfl
  | b :: r, i + 1, h, hb, hi => by
    have h0 := hb 0 (by omega)
    rw [List.drop_zero] at h0
    show (if open_ ps (b :: r) = true then r.length + 1 else tail ps r) = _
    rw [h0, if_neg Bool.false_ne_true, tail_found r i (by simpa using h) (fun j hj => hb (j + 1) (by omega)) hi, List.length_cons]
    omega
theorem tail_none {ps : List Bytes} : ∀ (t : Bytes), (∀ j, j < t.length → open_ ps (t.drop j) = false) → tail ps t = 0
  | [], _ => rfl
  | b :: r, hb => by
    have h0 := hb 0 (by simp)
    rw [List.drop_zero] at h0
    show (if open_ ps (b :: r) = true then r.length + 1 else tail ps r) = _
    rw [h0, if_neg Bool.false_ne_true]
    exact tail_none r fun j hj => hb (j + 1) (by simpa using hj)
theorem tail_le {ps : List Bytes} : ∀ (t : Bytes), tail ps t ≤ t.length
  | [] => Nat.le_refl _
  | b :: r => by
    show (if open_ ps (b :: r) = true then r.length + 1 else tail ps r) ≤ r.length + 1
    have := tail_le (ps := ps) r
    split <;> omega
/-- a row that begins a longer spelling -/
def longer (p r : Bytes) : Bool := r.isPrefixOf p && decide (r.length < p.length)
theorem longer_iff {p r : Bytes} : longer p r = true ↔ r.length < p.length ∧ p.take r.length = r := by
  unfold longer
  rw [Bool.and_eq_true, pre_iff, decide_eq_true_eq]
  exact And.comm
theorem open_drop {ps : List Bytes} {t : Bytes} {i : Nat} (h : i < t.length) : open_ ps (t.drop i) = ps.any fun p => longer p (t.drop i) := by
  unfold open_ longer
  have e : (t.drop i).isEmpty = false := by
    rw [List.isEmpty_eq_false_iff]
    intro q
    have := congrArg List.length q
    rw [List.length_drop] at this
    simp at this
    omega
  rw [e]
  rfl
theorem any_found {ps : List Bytes} {r p : Bytes} {i : Nat} (h : ps[i]? = some p) (hp : longer p r = true) : (ps.any fun p => longer p r) = true :=
  List.any_eq_true.mpr ⟨p, List.mem_of_getElem? h, hp⟩
theorem any_more {ps : List Bytes} {r p : Bytes} {i : Nat} (h : ps[i]? = some p) (ha : ((ps.take i).any fun p => longer p r) = false) (hp : longer p r = false) : ((ps.take (i + 1)).any fun p => longer p r) = false := by
  rw [take_more h, List.any_append, ha, Bool.false_or]
  show (longer p r || false) = false
  rw [hp]
  rfl

/-! settled -/
theorem find_range {f : Nat → Bool} : ∀ (n k : Nat), k < n → (∀ j, j < k → f j = false) → f k = true → (List.range n).find? f = some k := by
  intro n k hk h1 h2
  rw [List.find?_range_eq_some]
  refine ⟨h2, by simpa using hk, fun j hj => ?_⟩
  rw [h1 j hj]
  rfl
theorem settled_found {ps : List Bytes} {t : Bytes} {k : Nat} (h1 : t.length - tail ps t ≤ k) (h2 : k < t.length) (hb : ∀ j, t.length - tail ps t ≤ j → j < k → (covered ps 0 t)[j]? = some true)
    (hk : (covered ps 0 t)[k]? = some false) : settled ps t = k := by
  unfold settled
  have e : (List.range (t.length - (t.length - tail ps t))).find? (fun j => !(covered ps 0 t).getD (t.length - tail ps t + j) true) = some (k - (t.length - tail ps t)) := by
    refine find_range _ _ (by omega) (fun j hj => ?_) ?_
    · rw [List.getD_eq_getElem?_getD, hb _ (by omega) (by omega)]
      rfl
    · rw [List.getD_eq_getElem?_getD, show t.length - tail ps t + (k - (t.length - tail ps t)) = k by omega, hk]
      rfl
  simp only [e]
  omega
theorem settled_none {ps : List Bytes} {t : Bytes} (hb : ∀ j, t.length - tail ps t ≤ j → j < t.length → (covered ps 0 t)[j]? = some true) : settled ps t = t.length := by
  unfold settled
  have e : (List.range (t.length - (t.length - tail ps t))).find? (fun j => !(covered ps 0 t).getD (t.length - tail ps t + j) true) = none := by
    rw [List.find?_eq_none]
    intro j hj
    rw [List.mem_range] at hj
    rw [List.getD_eq_getElem?_getD, hb _ (by omega) (by omega)]
    simp
  simp only [e]
theorem settled_le (ps : List Bytes) (t : Bytes) : settled ps t ≤ t.length := by
  unfold settled
  have := tail_le (ps := ps) t
  dsimp only
  split
  · rename_i k h
    have h' := List.mem_of_find?_eq_some h
    rw [List.mem_range] at h'
    omega
  · exact Nat.le_refl _

/-! shown -/
def was (c : List Bool) (a : Nat) : Bool := decide (0 < a) && c.getD (a - 1) false
def between (t : Bytes) (c : List Bool) (a b : Nat) : Bytes := shown (was c a) (((t.zip c).take b).drop a)
theorem part_is (ps : List Bytes) (t : Bytes) (a b : Nat) : part ps t a b = between t (covered ps 0 t) a b := rfl
theorem between_end {t : Bytes} {c : List Bool} {a b : Nat} (h : b ≤ a) : between t c a b = [] := by
  unfold between
  rw [List.drop_eq_nil_of_le (by rw [List.length_take]; omega)]
  rfl
theorem between_more {t : Bytes} {c : List Bool} {a b x : Nat} {k : Bool} (h : a < b) (hx : t[a]? = some x) (hk : c[a]? = some k) :
    between t c a b = (if k = true then (if was c a = true then [] else [42, 42, 42]) else [x]) ++ between t c (a + 1) b := by
  have hz : (t.zip c)[a]? = some (x, k) := by
    rw [List.getElem?_zip_eq_some]
    exact ⟨hx, hk⟩
  have hz' : ((t.zip c).take b)[a]? = some (x, k) := by
    rw [List.getElem?_take_of_lt h]
    exact hz
  have hw : was c (a + 1) = k := by
    unfold was
    rw [Nat.add_sub_cancel, List.getD_eq_getElem?_getD, hk]
    simp
  unfold between
  rw [drop_here hz', hw]
  cases k
  · rfl
  · show (if was c a = true then [] else [42, 42, 42]) ++ shown true _ = _
    rfl
theorem was_iff {c : List Bool} {a : Nat} (h : a ≤ c.length) : was c a = true ↔ 0 < a ∧ c[a - 1]? = some true := by
  unfold was
  rw [Bool.and_eq_true, decide_eq_true_eq, List.getD_eq_getElem?_getD]
  constructor
  · rintro ⟨h1, h2⟩
    refine ⟨h1, ?_⟩
    cases e : c[a - 1]? with
    | none => rw [e] at h2; cases h2
    | some b => rw [e] at h2; exact congrArg some h2
  · rintro ⟨h1, h2⟩
    rw [h2]
    exact ⟨h1, rfl⟩
theorem whole_is (ps : List Bytes) (t : Bytes) : whole ps t = between t (covered ps 0 t) 0 t.length := by
  unfold whole between
  rw [List.drop_zero, List.take_of_length_le (by rw [List.length_zip, covered_length]; omega)]
  rfl
theorem between_length (t : Bytes) (c : List Bool) (b : Nat) : ∀ (n a : Nat), b - a = n → b ≤ t.length → b ≤ c.length → (between t c a b).length ≤ 3 * (b - a)
  | 0, a, h, _, _ => by rw [between_end (by omega)]; simp
  | n + 1, a, h, h1, h2 => by
    obtain ⟨x, hx⟩ : ∃ x, t[a]? = some x := ⟨t[a]'(by omega), List.getElem?_eq_getElem (by omega)⟩
    obtain ⟨k, hk⟩ : ∃ k, c[a]? = some k := ⟨c[a]'(by omega), List.getElem?_eq_getElem (by omega)⟩
    have ih := between_length t c b n (a + 1) (by omega) h1 h2
    rw [between_more (by omega) hx hk, List.length_append]
    have : (if k = true then (if was c a = true then [] else [42, 42, 42]) else [x]).length ≤ 3 := by
      cases k
      · simp
      · rw [if_pos rfl]
        split <;> simp
    omega
end Sc

/-! What is handed in, as the document's calls; what is due, call by call. Plain Lean. -/
namespace Sc
open Rp10

def zs (l : List Nat) : List Int := l.map fun (n : Nat) => (n : Int)
theorem zs_length (l : List Nat) : (zs l).length = l.length := List.length_map _
theorem nats_zs : ∀ l : List Nat, Rp10Neutral.nats (zs l) = l
  | [] => rfl
  | a :: l => by
    show (a : Int).toNat :: Rp10Neutral.nats (zs l) = a :: l
    rw [nats_zs l]
    rfl
theorem zs_nats : ∀ l : List Int, (∀ z ∈ l, 0 ≤ z) → zs (Rp10Neutral.nats l) = l
  | [], _ => rfl
  | a :: l, h => by
    show ((a.toNat : Nat) : Int) :: zs (Rp10Neutral.nats l) = a :: l
    rw [zs_nats l fun z hz => h z (List.mem_cons_of_mem _ hz), Int.toNat_of_nonneg (h a List.mem_cons_self)]
/-- a call's rows -/
def enc : Call → List (List Int)
  | .begins => [[0]]
  | .secret m s => [[1, (m : Int)], zs s]
  | .feed b => [[2], zs b]
  | .ends => [[3]]
  | .held => [[4]]
  | .spell m s => [[5, (m : Int)], zs s]
  | .all b => [[6], zs b]
/-- a call as it is handed in -/
def flat1 : Call → List Int
  | .begins => [0]
  | .secret m s => 1 :: (m : Int) :: (s.length : Int) :: zs s
  | .feed b => 2 :: (b.length : Int) :: zs b
  | .ends => [3]
  | .held => [4]
  | .spell m s => 5 :: (m : Int) :: (s.length : Int) :: zs s
  | .all b => 6 :: (b.length : Int) :: zs b
def flat (xs : List Call) : List Int := xs.flatMap flat1
def Fit : Call → Prop
  | .begins => True
  | .secret m s => m ≤ 4294967295 ∧ s.length ≤ 20 ∧ ∀ b ∈ s, b ≤ 255
  | .feed b => b.length ≤ 320 ∧ ∀ x ∈ b, x ≤ 255
  | .ends => True
  | .held => True
  | .spell m s => m ≤ 4294967295 ∧ s.length ≤ 20 ∧ ∀ b ∈ s, b ≤ 255
  | .all b => b.length ≤ 320 ∧ ∀ x ∈ b, x ≤ 255
theorem put1_enc (x : Call) : PyFlat.put1 (enc x) = flat1 x := by
  cases x <;> simp [PyFlat.put1, enc, flat1, PyFlat.putRows, PyFlat.putRow, zs]
theorem put_enc : ∀ xs : List Call, PyFlat.put (xs.map enc) = flat xs
  | [] => rfl
  | x :: xs => by
    show PyFlat.put1 (enc x) ++ PyFlat.put (xs.map enc) = flat1 x ++ flat xs
    rw [put1_enc, put_enc xs]
theorem callOf_enc (x : Call) : Rp10Neutral.callOf (enc x) = some x := by
  cases x <;> simp [Rp10Neutral.callOf, enc, nats_zs]
theorem whole_enc (x : Call) : PyRp10.whole (enc x) = enc x := by
  cases x <;> rfl
/-- what is due from a state on -/
def tell : House → List Call → List Int
  | _, [] => []
  | h, x :: xs => ((Rp10Neutral.out (step h x).2).length : Int) :: (Rp10Neutral.out (step h x).2 ++ tell (step h x).1 xs)
theorem told_enc : ∀ (xs : List Call) (h : House), PyFlat.told (PyFlat.played Rp10Neutral.step h (xs.map enc)) = tell h xs
  | [], _ => rfl
  | x :: xs, h => by
    have e : Rp10Neutral.step h (enc x) = ((step h x).1, Rp10Neutral.out (step h x).2) := by
      unfold Rp10Neutral.step
      rw [callOf_enc]
    show ((Rp10Neutral.step h (enc x)).2.length : Int) :: (Rp10Neutral.step h (enc x)).2 ++ PyFlat.told (PyFlat.played Rp10Neutral.step (Rp10Neutral.step h (enc x)).1 (xs.map enc)) = _
    rw [e, told_enc xs]
    rfl
theorem enc_of {c : List (List Int)} (h : Rp10Neutral.asked1 c = true) : ∃ x, c = enc x ∧ Fit x := by
  have wn : ∀ z : Int, Rp10Neutral.whole32 z = true → 0 ≤ z ∧ z ≤ 4294967295 := fun z q => by
    unfold Rp10Neutral.whole32 at q
    rw [Bool.and_eq_true, decide_eq_true_eq, decide_eq_true_eq] at q
    omega
  have bn : ∀ (l : List Int) (n : Nat), Rp10Neutral.bytes l n = true → (zs (Rp10Neutral.nats l) = l) ∧ (Rp10Neutral.nats l).length ≤ n ∧ ∀ b ∈ Rp10Neutral.nats l, b ≤ 255 := fun l n q => by
    unfold Rp10Neutral.bytes at q
    rw [Bool.and_eq_true, decide_eq_true_eq, List.all_eq_true] at q
    have q2 : ∀ z ∈ l, 0 ≤ z ∧ z ≤ 255 := fun z hz => by
      have := q.2 z hz
      rw [Bool.and_eq_true, decide_eq_true_eq, decide_eq_true_eq] at this
      exact this
    refine ⟨zs_nats l fun z hz => (q2 z hz).1, ?_, fun b hb => ?_⟩
    · show (l.map Int.toNat).length ≤ n
      rw [List.length_map]
      exact q.1
    · obtain ⟨z, hz, rfl⟩ := List.mem_map.mp (show b ∈ l.map Int.toNat from hb)
      have := q2 z hz
      omega
  unfold Rp10Neutral.asked1 at h
  split at h
  · exact ⟨.begins, rfl, trivial⟩
  · rename_i m s
    rw [Bool.and_eq_true] at h
    obtain ⟨h1, h2⟩ := wn m h.1
    obtain ⟨e, a, b⟩ := bn s 20 h.2
    refine ⟨.secret m.toNat (Rp10Neutral.nats s), ?_, by omega, a, b⟩
    show _ = [[1, ((m.toNat : Nat) : Int)], zs (Rp10Neutral.nats s)]
    rw [e, Int.toNat_of_nonneg h1]
  · rename_i b
    obtain ⟨e, a, c⟩ := bn b 320 h
    refine ⟨.feed (Rp10Neutral.nats b), ?_, a, c⟩
    show _ = [[2], zs (Rp10Neutral.nats b)]
    rw [e]
  · exact ⟨.ends, rfl, trivial⟩
  · exact ⟨.held, rfl, trivial⟩
  · rename_i m s
    rw [Bool.and_eq_true] at h
    obtain ⟨h1, h2⟩ := wn m h.1
    obtain ⟨e, a, b⟩ := bn s 20 h.2
    refine ⟨.spell m.toNat (Rp10Neutral.nats s), ?_, by omega, a, b⟩
    show _ = [[5, ((m.toNat : Nat) : Int)], zs (Rp10Neutral.nats s)]
    rw [e, Int.toNat_of_nonneg h1]
  · rename_i b
    obtain ⟨e, a, c⟩ := bn b 320 h
    refine ⟨.all (Rp10Neutral.nats b), ?_, a, c⟩
    show _ = [[6], zs (Rp10Neutral.nats b)]
    rw [e]
  · cases h
theorem encs_of : ∀ (cs : List (List (List Int))), cs.all Rp10Neutral.asked1 = true → ∃ xs : List Call, cs = xs.map enc ∧ ∀ x ∈ xs, Fit x
  | [], _ => ⟨[], rfl, fun _ h => by cases h⟩
  | c :: cs, h => by
    rw [List.all_cons, Bool.and_eq_true] at h
    obtain ⟨x, e, f⟩ := enc_of h.1
    obtain ⟨xs, e2, f2⟩ := encs_of cs h.2
    refine ⟨x :: xs, by rw [e, e2]; rfl, fun y hy => ?_⟩
    rcases List.mem_cons.mp hy with rfl | hy
    · exact f
    · exact f2 y hy
/-- whole changes nothing that is asked -/
theorem whole_id (c : List (List Int)) : PyRp10.whole c = c := by
  unfold PyRp10.whole
  split <;> rfl
theorem asked_form {ns : List Int} (h : PyRp10.answers_asked ns = true) : ∃ xs : List Call, ns = flat xs ∧ (∀ x ∈ xs, Fit x) ∧ PyRp10.answers ns = tell init xs ∧ (tell init xs).length ≤ 10000000 := by
  unfold PyRp10.answers_asked at h
  split at h
  · cases h
  · rename_i raw hr
    simp only [Bool.and_eq_true] at h
    obtain ⟨⟨⟨_, hb⟩, ha⟩, hs⟩ := h
    have hm : raw.map PyRp10.whole = raw := by
      rw [List.map_congr_left (fun c _ => whole_id c), List.map_id']
    rw [hm] at ha
    unfold Rp10Neutral.asked at ha
    rw [Bool.and_eq_true] at ha
    obtain ⟨xs, e, f⟩ := encs_of raw ha.1
    have hn := (PyFlat.put_calls _ _ _ hr).1
    have ea : PyRp10.answers ns = tell init xs := by
      unfold PyRp10.answers PyRp10.calls
      rw [hr]
      show PyFlat.told (PyFlat.played Rp10Neutral.step Rp10Neutral.start (raw.map PyRp10.whole)) = _
      rw [hm, e, told_enc]
      rfl
    refine ⟨xs, ?_, f, ea, ?_⟩
    · rw [← put_enc, ← e]
      exact hn
    · rw [← ea]
      unfold PyFlat.short at hs
      exact of_decide_eq_true hs
end Sc

/-! What holds of a house between two calls. Plain Lean. -/
namespace Sc
open Rp10
structure Good (h : House) : Prop where
  few : h.ps.length ≤ 6 * h.secrets
  sec : h.secrets ≤ 5
  short : ∀ p ∈ h.ps, p.length ≤ 24
  text : h.text.length ≤ 300
  sent : h.sent ≤ h.text.length
theorem Good.init : Good Rp10.init := ⟨Nat.zero_le _, Nat.zero_le _, fun p h => (by cases h), Nat.zero_le _, Nat.zero_le _⟩
section
variable {h : House} {m : Nat} {s b : Bytes}
theorem secret_no (c : m = 0 ∨ 15 < m ∨ isSecret s = false) : step h (.secret m s) = (h, ok (-1)) := if_pos c
theorem secret_late (c : ¬ (m = 0 ∨ 15 < m ∨ isSecret s = false)) (t : h.text ≠ []) : step h (.secret m s) = (h, ok (-3)) := (if_neg c).trans (if_pos t)
theorem secret_many (c : ¬ (m = 0 ∨ 15 < m ∨ isSecret s = false)) (t : ¬ h.text ≠ []) (n : h.secrets = SECRETS) : step h (.secret m s) = (h, ok (-7)) := (if_neg c).trans ((if_neg t).trans (if_pos n))
theorem secret_ok (c : ¬ (m = 0 ∨ 15 < m ∨ isSecret s = false)) (t : ¬ h.text ≠ []) (n : ¬ h.secrets = SECRETS) :
    step h (.secret m s) = ({ h with secrets := h.secrets + 1, ps := h.ps ++ spellings m s }, ok (spellings m s).length) := (if_neg c).trans ((if_neg t).trans (if_neg n))
theorem feed_no (c : TEXT < h.text.length + b.length) : step h (.feed b) = (h, ok (-7)) := if_pos c
theorem feed_ok (c : ¬ TEXT < h.text.length + b.length) : step h (.feed b) = ({ h with text := h.text ++ b, sent := settled h.ps (h.text ++ b) },
    ⟨((h.text ++ b).length - settled h.ps (h.text ++ b) : Nat), part h.ps (h.text ++ b) h.sent (settled h.ps (h.text ++ b))⟩) := if_neg c
theorem spell_no (c : m = 0 ∨ 15 < m ∨ isSecret s = false) : step h (.spell m s) = (h, ok (-1)) := if_pos c
theorem spell_ok (c : ¬ (m = 0 ∨ 15 < m ∨ isSecret s = false)) : step h (.spell m s) = (h, ⟨((spellings m s).length : Nat), (spellings m s).flatMap fun p => p.length :: p⟩) := if_neg c
theorem all_no (c : TEXT < b.length) : step h (.all b) = (h, ok (-7)) := if_pos c
theorem all_ok (c : ¬ TEXT < b.length) : step h (.all b) = (h, ⟨(b.length : Nat), whole h.ps b⟩) := if_neg c
theorem isSecret_len (e : isSecret s = true) : 1 ≤ s.length ∧ s.length ≤ 12 := by
  unfold isSecret LONG at e
  rw [Bool.and_eq_true, Bool.and_eq_true, decide_eq_true_eq, decide_eq_true_eq] at e
  exact ⟨e.1, e.2.1⟩
end
theorem Good.step {h : House} (g : Good h) (x : Call) : Good (step h x).1 := by
  cases x with
  | begins => exact Good.init
  | secret m s =>
    by_cases c : m = 0 ∨ 15 < m ∨ isSecret s = false
    · rw [secret_no c]
      exact g
    by_cases t : h.text ≠ []
    · rw [secret_late c t]
      exact g
    by_cases n : h.secrets = SECRETS
    · rw [secret_many c t n]
      exact g
    rw [secret_ok c t n]
    have hs : isSecret s = true := by
      cases e : isSecret s with
      | true => rfl
      | false => exact absurd (.inr (.inr e)) c
    have n5 : ¬ h.secrets = 5 := n
    have g1 := g.few
    have g2 := g.sec
    have g3 := spellings_few m s
    refine ⟨?_, ?_, fun p hp => ?_, g.text, g.sent⟩
    · show (h.ps ++ spellings m s).length ≤ 6 * (h.secrets + 1)
      rw [List.length_append]
      omega
    · show h.secrets + 1 ≤ 5
      omega
    · rcases List.mem_append.mp (show p ∈ h.ps ++ spellings m s from hp) with hp | hp
      · exact g.short p hp
      · exact spellings_le m s (isSecret_len hs).2 p hp
  | feed b =>
    by_cases c : TEXT < h.text.length + b.length
    · rw [feed_no c]
      exact g
    rw [feed_ok c]
    have c' : ¬ 300 < h.text.length + b.length := c
    refine ⟨g.few, g.sec, g.short, ?_, settled_le _ _⟩
    show (h.text ++ b).length ≤ 300
    rw [List.length_append]
    omega
  | ends => exact ⟨g.few, g.sec, g.short, Nat.zero_le _, Nat.zero_le _⟩
  | held => exact g
  | spell m s =>
    by_cases c : m = 0 ∨ 15 < m ∨ isSecret s = false
    · rw [spell_no c]
      exact g
    · rw [spell_ok c]
      exact g
  | all b =>
    by_cases c : TEXT < b.length
    · rw [all_no c]
      exact g
    · rw [all_ok c]
      exact g
end Sc

/-! The text by places, what the top has written, lists in the heap. -/
namespace Sc
open PySem PySem.Spec PyProof.Rows L2
open Rp10 (Bytes)
def top (i : Nat) : Stmt := PySem.Challenge.pw_starcover_s01_answers.main.body.getD i (.Pass ⟨0, 0, 0, 0⟩)

/-! lists as values -/
def iv (l : List Nat) : List V := l.map fun (n : Nat) => V.int (n : Int)
def bv (l : List Bool) : List V := l.map V.bl
def rv (l : List Addr) : List V := l.map V.ref
theorem iv_length (l : List Nat) : (iv l).length = l.length := List.length_map _
theorem bv_length (l : List Bool) : (bv l).length = l.length := List.length_map _
theorem rv_length (l : List Addr) : (rv l).length = l.length := List.length_map _
theorem iv_append (a b : List Nat) : iv (a ++ b) = iv a ++ iv b := List.map_append
theorem iv_snoc (l : List Nat) (x : Nat) : iv (l ++ [x]) = iv l ++ [.int (x : Int)] := List.map_append
theorem rv_append (a b : List Addr) : rv (a ++ b) = rv a ++ rv b := List.map_append
theorem iv_at {l : List Nat} {i : Nat} {y : V} (h : (iv l)[i]? = some y) : ∃ n, l[i]? = some n ∧ y = .int (n : Int) := by
  unfold iv at h
  rw [List.getElem?_map] at h
  cases e : l[i]? with
  | none => rw [e] at h; cases h
  | some n => rw [e] at h; exact ⟨n, rfl, (Option.some.inj h).symm⟩
theorem rv_at {l : List Addr} {i : Nat} {y : V} (h : (rv l)[i]? = some y) : ∃ n, l[i]? = some n ∧ y = .ref n := by
  unfold rv at h
  rw [List.getElem?_map] at h
  cases e : l[i]? with
  | none => rw [e] at h; cases h
  | some n => rw [e] at h; exact ⟨n, rfl, (Option.some.inj h).symm⟩
theorem iv_get {l : List Nat} {i n : Nat} (h : l[i]? = some n) : (iv l)[i]? = some (.int (n : Int)) := by
  unfold iv
  rw [List.getElem?_map, h]
  rfl
theorem bv_get {l : List Bool} {i : Nat} {b : Bool} (h : l[i]? = some b) : (bv l)[i]? = some (.bl b) := by
  unfold bv
  rw [List.getElem?_map, h]
  rfl
theorem iv_take (l : List Nat) (n : Nat) : iv (l.take n) = (iv l).take n := List.map_take
theorem iv_drop (l : List Nat) (n : Nat) : iv (l.drop n) = (iv l).drop n := List.map_drop

/-! heaps -/
theorem same_upd {H : Hp} {p : Addr} {o : HO} (h : H p = none) : Same H (upd H p o) := fun b x e => by
  rw [upd_ne (ne_of_none e h)]
  exact e
/-- a new object is written on -/
theorem same_on {H H1 : Hp} {p : Addr} {o : HO} (h : H p = none) (s : Same H H1) : Same H (upd H1 p o) := fun b x e => by
  rw [upd_ne (ne_of_none e h)]
  exact s b x e
theorem free_of {H H1 : Hp} {p : Addr} (s : Same H H1) (h : H1 p = none) : H p = none := s.free h
theorem keep_at {H : Hp} {a p : Addr} {u o : HO} (h : H a = some u) (n : H p = none) : upd H p o a = some u := by
  rw [upd_ne (ne_of_none h n)]
  exact h
/-- rows in the heap -/
structure RowsAt (H : Hp) (as : List Addr) (ps : List Bytes) : Prop where
  len : as.length = ps.length
  at_ : ∀ (i : Nat) (a : Addr) (p : Bytes), as[i]? = some a → ps[i]? = some p → H a = some (.lst (iv p))
theorem RowsAt.same {H H' : Hp} {as : List Addr} {ps : List Bytes} (r : RowsAt H as ps) (s : Same H H') : RowsAt H' as ps :=
  ⟨r.len, fun i a p h1 h2 => s _ _ (r.at_ i a p h1 h2)⟩
theorem RowsAt.nil {H : Hp} : RowsAt H [] [] := ⟨rfl, fun i a p h => by simp at h⟩
theorem RowsAt.app {H : Hp} {as bs : List Addr} {ps qs : List Bytes} (r : RowsAt H as ps) (q : RowsAt H bs qs) : RowsAt H (as ++ bs) (ps ++ qs) := by
  refine ⟨by rw [List.length_append, List.length_append, r.len, q.len], fun i a p h1 h2 => ?_⟩
  by_cases c : i < as.length
  · rw [List.getElem?_append_left c] at h1
    rw [List.getElem?_append_left (by rw [← r.len]; exact c)] at h2
    exact r.at_ i a p h1 h2
  · rw [List.getElem?_append_right (by omega)] at h1
    rw [List.getElem?_append_right (by rw [← r.len]; omega)] at h2
    rw [r.len] at h1
    exact q.at_ _ a p h1 h2
theorem RowsAt.one {H : Hp} {a : Addr} {p : Bytes} (h : H a = some (.lst (iv p))) : RowsAt H [a] [p] := by
  refine ⟨rfl, fun i b q h1 h2 => ?_⟩
  cases i with
  | zero =>
    have e1 : a = b := Option.some.inj h1
    have e2 : p = q := Option.some.inj h2
    subst e1 e2
    exact h
  | succ i => simp at h1
theorem RowsAt.get {H : Hp} {as : List Addr} {ps : List Bytes} {i : Nat} {a : Addr} (r : RowsAt H as ps) (h : as[i]? = some a) : ∃ p, ps[i]? = some p ∧ H a = some (.lst (iv p)) := by
  have hl : i < ps.length := by
    rw [← r.len]
    exact (List.getElem?_eq_some_iff.mp h).1
  exact ⟨ps[i], List.getElem?_eq_getElem hl, r.at_ i a _ h (List.getElem?_eq_getElem hl)⟩
theorem RowsAt.mem {H : Hp} {as : List Addr} {ps : List Bytes} {a : Addr} (r : RowsAt H as ps) (h : a ∈ as) : ∃ p, p ∈ ps ∧ H a = some (.lst (iv p)) := by
  obtain ⟨i, hi⟩ := List.getElem?_of_mem h
  obtain ⟨p, h1, h2⟩ := r.get hi
  exact ⟨p, List.mem_of_getElem? h1, h2⟩
/-- an object that is none of the rows is written -/
theorem RowsAt.upd {H : Hp} {as : List Addr} {ps : List Bytes} {b : Addr} {o : HO} (r : RowsAt H as ps) (h : b ∉ as) : RowsAt (upd H b o) as ps := by
  refine ⟨r.len, fun i a p h1 h2 => ?_⟩
  rw [upd_ne]
  · exact r.at_ i a p h1 h2
  · intro e
    subst e
    exact h (List.mem_of_getElem? h1)

/-- a new list of new rows -/
structure NewRows (H H' : Hp) (p : Addr) (ps : List Bytes) : Prop where
  same : Same H H'
  new : H p = none
  ex : ∃ as : List Addr, H' p = some (.lst (rv as)) ∧ RowsAt H' as ps ∧ (∀ a ∈ as, H a = none) ∧ p ∉ as

/-! slices -/
theorem sIx_some (n d i : Nat) : HT.sIx n d (some (i : Int)) = min i n := HT.sIx_nat n d i
theorem cut_from (xs : List V) (i : Nat) : cutV xs (some (i : Int)) none = xs.drop i := by
  unfold cutV
  rw [sIx_some, HT.sIx_none]
  by_cases h : i ≤ xs.length
  · rw [Nat.min_eq_left h]
    exact List.take_of_length_le (by rw [List.length_drop]; omega)
  · rw [Nat.min_eq_right (by omega), List.drop_length, List.take_nil, List.drop_eq_nil_of_le (by omega)]
theorem cut_mid (xs : List V) (i j : Nat) (h : i ≤ xs.length) (hj : j ≤ xs.length) : cutV xs (some (i : Int)) (some (j : Int)) = (xs.drop i).take (j - i) := by
  unfold cutV
  rw [sIx_some, sIx_some, Nat.min_eq_left h, Nat.min_eq_left hj]
theorem cut_to (xs : List V) (j : Nat) : cutV xs none (some (j : Int)) = xs.take j := by
  unfold cutV
  rw [sIx_some, HT.sIx_none, List.drop_zero, Nat.sub_zero]
  by_cases c : j ≤ xs.length
  · rw [Nat.min_eq_left c]
  · rw [Nat.min_eq_right (by omega), List.take_length, List.take_of_length_le (by omega)]

/-! a def that others call: where it stands, how it is called, what it promises -/
structure Df (P : Program) (w : World) (K : PySem.W.Frag) (mg : Str → Option Value) (base : Heap) (k : Nat) (x : Str) (ps : List Str) (sp : Sp) : Prop where
  ex : ∃ (f : Addr) (fd : FuncData), mg x = some (.ref f) ∧ PySem.W.keepIn K (.ref f) = true ∧ Binds K fd ps [] ∧ FnOk P w K mg base CX0 k f fd ps sp
theorem sizes {n : Nat} (h : n ≤ 16777216) : n ≤ sizeLine := h
theorem sizes_lt {n : Nat} (h : n < 16777216) : n < sizeLine := h
end Sc

namespace Sc
open PySem PySem.Spec PyProof.Rows L2
open Rp10 (Bytes)
abbrev sHex : Stmt := top 19
theorem scHex : FnScope ["row", "signs", "spelling", "byte"] ["row", "signs"] (defScope sHex) := ⟨rfl, rfl, rfl, by decide +kernel, rfl, by decide +kernel, by decide +kernel⟩
/-- the sixteen signs -/
def Digits (z : Str) (up : Bool) : Prop := z.length ≤ sizeLine ∧ ∀ k : Nat, k < 16 → z.cps.toList[k]? = some (Rp10.digit up k)
def spHex (K : PySem.W.Frag) : Sp := fun vs H Q _ => ∃ (a : Addr) (s : Bytes) (z : Str) (up : Bool), vs = [.ref a, .str z] ∧ SqL K H a (iv s) ∧ (∀ b ∈ s, b ≤ 255) ∧ s.length ≤ 20 ∧ Digits z up ∧
  ∀ H' p, Same H H' → H p = none → H' p = some (.lst (iv (Rp10.hex up s))) → Q (.ref p) H'
section
variable {P : Program} {w : World} {K : PySem.W.Frag} {mg : Str → Option Value} {base : Heap}
theorem ok_hex {f : Addr} {fd : FuncData} {k : Nat} (F : Fun K "in_sixteens" "in_sixteens" sHex f fd) (mo : mg "ord" = none) : FnOk P w K mg base CX0 (k + 1) f fd ["row", "signs"] (spHex K) := by
  refine F.ok scHex (fun vs H Q E h => ?_) (fun cdv A outer s0 H vs Q E hr h => ?_)
  · obtain ⟨a, s, z, up, rfl, _⟩ := h
    rfl
  · obtain ⟨a, s, z, up, rfl, hS, hb, hl, hz, q⟩ := h
    refine ⟨_, pss_cons (ps_set (i := 2) scHex.nd rfl (.inl rfl) (pe_lst pa_nil))
      (pss_cons (ps_for PassesOwn.never rfl (pi_list (pv 0)) (pg_name (i := 3) scHex.nd rfl (.inl rfl))
        (pss_cons (ps_expr (pe_bm PySem.F.plainAttrs_list PySem.F.slot_list_append PySem.F.type_list_append mt_append (pv 2)
            (pa_cons (pe_callB call_ord (by rfl) mo boot_ord (pa_cons (pe_ix ix_str (pv 1) (pe_op op_fdiv (pv 3) pe_int) (fun _ _ => rfl)) pa_nil)) pa_nil)))
        (pss_one (ps_expr (pe_bm PySem.F.plainAttrs_list PySem.F.slot_list_append PySem.F.type_list_append mt_append (pv 2)
            (pa_cons (pe_callB call_ord (by rfl) mo boot_ord (pa_cons (pe_ix ix_str (pv 1) (pe_op op_mod (pv 3) pe_int) (fun _ _ => rfl)) pa_nil)) pa_nil))))))
      (pss_one (ps_ret (pv 2)))), ?_⟩
    refine ⟨Nat.zero_le _, fun o no => ?_⟩
    have s1 : Same H (upd H o (.lst [])) := same_upd no
    refine ⟨_, rfl, a, rfl, ⟨_, s1.seq hS⟩, for_list (K := K) (a := a) (xs := iv s)
      (fun i σ H' => ∃ v, σ = [some (.ref a), some (.str z), some (.ref o), v] ∧ Same H H' ∧ H' o = some (.lst (iv (Rp10.hex up (s.take i)))))
      ⟨none, rfl, s1, upd_same⟩ (fun i σ H' _ ⟨_, _, s5, _⟩ => s5.seq hS) ?_ ?_⟩
    · rintro i y σ H' hi ⟨v, rfl, s5, ho⟩
      obtain ⟨b, hbi, rfl⟩ := iv_at hi
      have hb255 : b ≤ 255 := hb b (List.mem_of_getElem? hbi)
      have hlen : (Rp10.hex up (s.take i)).length ≤ 40 := by
        rw [hex_length, List.length_take]
        omega
      have c1 : atI z.cps.toList ((b : Int) / 16) = some (Rp10.digit up (b / 16)) := by
        rw [show ((b : Int) / 16) = ((b / 16 : Nat) : Int) by omega]
        exact atI_nat (hz.2 _ (by omega))
      have c2 : atI z.cps.toList ((b : Int) % 16) = some (Rp10.digit up (b % 16)) := by
        rw [show ((b : Int) % 16) = ((b % 16 : Nat) : Int) by omega]
        exact atI_nat (hz.2 _ (by omega))
      refine ⟨_, rfl, .inl ⟨rfl, _, SqL.of ho⟩, _, rfl, _, rfl, _, _, rfl, rfl, ⟨by decide, by decide⟩, _, _, _, rfl, rfl, hz.1, c1, _, rfl, rfl, o, _, _, rfl, rfl, ho, ?_, ?_⟩
      · rw [iv_length]
        exact sizes_lt (by omega)
      refine ⟨_, rfl, .inl ⟨rfl, _, SqL.of upd_same⟩, _, rfl, _, rfl, _, _, rfl, rfl, (by show (0 : Int) < 16; decide), _, _, _, rfl, rfl, hz.1, c2, _, rfl, rfl, o, _, _, rfl, rfl, upd_same, ?_, ?_⟩
      · rw [List.length_append, iv_length]
        exact sizes_lt (by show _ + 1 < _; omega)
      refine ⟨some (.int b), rfl, same_on no (same_on no s5), ?_⟩
      rw [upd_same, hex_more hbi, iv_append, List.append_assoc]
      rfl
    · rintro σ H' ⟨v, rfl, s5, ho⟩
      rw [iv_length, List.take_length] at ho
      exact ⟨_, rfl, q H' o s5 no ho⟩
end
end Sc

namespace Sc
open PySem PySem.Spec PyProof.Rows L2
open Rp10 (Bytes)
abbrev sBits : Stmt := top 20
theorem scBits : FnScope ["row", "bits", "byte", "shift"] ["row"] (defScope sBits) := ⟨rfl, rfl, rfl, by decide +kernel, rfl, by decide +kernel, by decide +kernel⟩
def spBits (K : PySem.W.Frag) : Sp := fun vs H Q _ => ∃ (a : Addr) (s : Bytes), vs = [.ref a] ∧ SqL K H a (iv s) ∧ s.length ≤ 20 ∧
  ∀ H' p, Same H H' → H p = none → H' p = some (.lst (iv (Rp10.bits s))) → Q (.ref p) H'
theorem bit_of (b j : Nat) (h : j < 8) : Builtin.bitAnd ((b : Int) / 2 ^ ((7 : Int) + (j : Int) * (-1)).toNat) 1 = ((b / 2 ^ (7 - j) % 2 : Nat) : Int) := by
  rw [show ((7 : Int) + (j : Int) * (-1)).toNat = 7 - j by omega, bitAnd_pp ?_ (by decide), show ((2 : Int) ^ (7 - j)) = ((2 ^ (7 - j) : Nat) : Int) by rw [Int.natCast_pow]; rfl, ← Int.natCast_ediv, Int.toNat_natCast]
  · show ((b / 2 ^ (7 - j) &&& 1 : Nat) : Int) = _
    rw [Nat.and_one_is_mod]
  · rw [show ((2 : Int) ^ (7 - j)) = ((2 ^ (7 - j) : Nat) : Int) by rw [Int.natCast_pow]; rfl, ← Int.natCast_ediv]
    exact Int.natCast_nonneg _
section
variable {P : Program} {w : World} {K : PySem.W.Frag} {mg : Str → Option Value} {base : Heap}
theorem ok_bits {f : Addr} {fd : FuncData} {k : Nat} (F : Fun K "bits_of" "bits_of" sBits f fd) (mr : mg "range" = none) : FnOk P w K mg base CX0 (k + 1) f fd ["row"] (spBits K) := by
  refine F.ok scBits (fun vs H Q E h => ?_) (fun cdv A outer s0 H vs Q E hr h => ?_)
  · obtain ⟨a, s, rfl, _⟩ := h
    rfl
  · obtain ⟨a, s, rfl, hS, hl, q⟩ := h
    refine ⟨_, pss_cons (ps_set (i := 1) scBits.nd rfl (.inl rfl) (pe_lst pa_nil))
      (pss_cons (ps_for PassesOwn.never rfl (pi_list (pv 0)) (pg_name (i := 2) scBits.nd rfl (.inl rfl))
        (pss_one (ps_for PassesOwn.never rfl (pi_range3 rfl mr (pa_cons pe_int (pa_cons (pe_un un_neg pe_int) (pa_cons (pe_un un_neg pe_int) pa_nil)))) (pg_name (i := 3) scBits.nd rfl (.inl rfl))
          (pss_one (ps_expr (pe_bm PySem.F.plainAttrs_list PySem.F.slot_list_append PySem.F.type_list_append mt_append (pv 1)
            (pa_cons (pe_op op_and (pe_op op_shr (pv 2) (pv 3)) pe_int) pa_nil)))))))
      (pss_one (ps_ret (pv 1)))), ?_⟩
    refine ⟨Nat.zero_le _, fun o no => ?_⟩
    have s1 : Same H (upd H o (.lst [])) := same_upd no
    refine ⟨_, rfl, a, rfl, ⟨_, s1.seq hS⟩, for_list (K := K) (a := a) (xs := iv s)
      (fun i σ H' => ∃ v u, σ = [some (.ref a), some (.ref o), v, u] ∧ Same H H' ∧ H' o = some (.lst (iv (Rp10.bits (s.take i)))))
      ⟨none, none, rfl, s1, upd_same⟩ (fun i σ H' _ ⟨_, _, _, s5, _⟩ => s5.seq hS) ?_ ?_⟩
    · rintro i y σ H' hi ⟨v, u, rfl, s5, ho⟩
      obtain ⟨b, hbi, rfl⟩ := iv_at hi
      have hlen : (Rp10.bits (s.take i)).length ≤ 160 := by
        rw [bits_length, List.length_take]
        omega
      refine ⟨1, rfl, 1, rfl, 7, -1, -1, 8, rfl, RgC.neg (by decide) (by decide) (by decide) (by decide), for_rangeC (lo := 7) (c := -1) (n := 8)
        (fun j σ H2 => ∃ u, σ = [some (.ref a), some (.ref o), some (.int (b : Int)), u] ∧ Same H H2 ∧ H2 o = some (.lst (iv (Rp10.bits (s.take i) ++ (Rp10.bits8 b).take j))))
        ⟨u, rfl, s5, ?_⟩ ?_ ?_⟩
      · rw [List.take_zero, List.append_nil]
        exact ho
      · rintro j σ H2 hj ⟨u, rfl, s6, ho2⟩
        refine ⟨_, rfl, .inl ⟨rfl, _, SqL.of ho2⟩, _, rfl, _, rfl, _, _, rfl, rfl, ?_, _, _, rfl, rfl, o, _, _, rfl, rfl, ho2, ?_, ?_⟩
        · show (0 : Int) ≤ 7 + (j : Int) * (-1)
          omega
        · rw [iv_length, List.length_append, List.length_take]
          exact sizes_lt (by omega)
        · refine ⟨_, rfl, same_on no s6, ?_⟩
          rw [upd_same]
          dsimp only
          rw [bit_of b j hj, take_more (bits8_at b hj), ← List.append_assoc, iv_snoc]
      · rintro σ H2 ⟨u, rfl, s6, ho2⟩
        refine ⟨_, _, rfl, s6, ?_⟩
        rw [ho2, bits_more hbi, List.take_of_length_le (l := Rp10.bits8 b) (Nat.le_refl 8)]
    · rintro σ H' ⟨v, u, rfl, s5, ho⟩
      rw [iv_length, List.take_length] at ho
      exact ⟨_, rfl, q H' o s5 no ho⟩
end
end Sc

namespace Sc
open PySem PySem.Spec PyProof.Rows L2
open Rp10 (Bytes)
abbrev sSixes : Stmt := top 21
theorem scSixes : FnScope ["bits", "signs", "start", "number", "bit"] ["bits"] (defScope sSixes) := ⟨rfl, rfl, rfl, by decide +kernel, rfl, by decide +kernel, by decide +kernel⟩
def spSixes (K : PySem.W.Frag) : Sp := fun vs H Q _ => ∃ (a : Addr) (l : List Nat), vs = [.ref a] ∧ SqL K H a (iv l) ∧ l.length ≤ 160 ∧ (∀ x ∈ l, x ≤ 1) ∧
  ∀ H' p, Same H H' → H p = none → H' p = some (.lst (iv (Rp10.sixes l))) → Q (.ref p) H'
/-- the sixty-four signs -/
def Signs (z : Str) : Prop := z.length ≤ sizeLine ∧ ∀ k : Nat, k < 64 → z.cps.toList[k]? = some (Rp10.sign k)
theorem rg6 (n : Nat) (h : n ≤ 160) : RgC 0 ((n : Int) - 5) 6 (n / 6) := by
  have hp : ∀ m : Nat, m ≤ 160 → Builtin.Range.small 0 ((m : Int) - 5) 6 = true ∧ Builtin.Range.rangeSize 0 ((m : Int) - 5) 6 = ((m / 6 : Nat) : Int) := by decide +kernel
  exact ⟨by decide, by decide, (hp n h).1, (hp n h).2⟩
section
variable {P : Program} {w : World} {K : PySem.W.Frag} {mg : Str → Option Value} {base : Heap}
theorem ok_sixes {f : Addr} {fd : FuncData} {k : Nat} {z : Str} (F : Fun K "sixes_of" "sixes_of" sSixes f fd) (mr : mg "range" = none) (ml : mg "len" = none) (mo : mg "ord" = none) (mS : ∃ t, mg "SIX_SIGNS" = some (.str z t)) (hz : Signs z) :
    FnOk P w K mg base CX0 (k + 1) f fd ["bits"] (spSixes K) := by
  obtain ⟨tS, mS⟩ := mS
  refine F.ok scSixes (fun vs H Q E h => ?_) (fun cdv A outer s0 H vs Q E hr h => ?_)
  · obtain ⟨a, s, rfl, _⟩ := h
    rfl
  · obtain ⟨a, l, rfl, hS, hl, h1, q⟩ := h
    refine ⟨_, pss_cons (ps_set (i := 1) scSixes.nd rfl (.inl rfl) (pe_lst pa_nil))
      (pss_cons (ps_for PassesOwn.never rfl (pi_range3 rfl mr (pa_cons pe_int (pa_cons (pe_op op_sub (pe_callB call_len_seq (by rfl) ml PySem.boot_len (pa_cons (pv 0) pa_nil)) pe_int) (pa_cons pe_int pa_nil)))) (pg_name (i := 2) scSixes.nd rfl (.inl rfl))
        (pss_cons (ps_set (i := 3) scSixes.nd rfl (.inl rfl) pe_int)
        (pss_cons (ps_for PassesOwn.never rfl (pi_list (pe_slice sl_list (pv 0) (po_some (pv 2)) (po_some (pe_op op_add (pv 2) pe_int)))) (pg_name (i := 4) scSixes.nd rfl (.inl rfl))
          (pss_one (ps_set (i := 3) scSixes.nd rfl (.inl rfl) (pe_op op_add (pe_op op_mul (pv 3) pe_int) (pv 4)))))
        (pss_one (ps_expr (pe_bm PySem.F.plainAttrs_list PySem.F.slot_list_append PySem.F.type_list_append mt_append (pv 1)
            (pa_cons (pe_callB call_ord (by rfl) mo boot_ord (pa_cons (pe_ix ix_str (pe_glob (v := .str z) rfl mS ⟨_, rfl⟩) (pv 3) (fun _ _ => rfl)) pa_nil)) pa_nil)))))))
      (pss_one (ps_ret (pv 1)))), ?_⟩
    refine ⟨Nat.zero_le _, fun o no => ?_⟩
    have s1 : Same H (upd H o (.lst [])) := same_upd no
    refine ⟨_, rfl, a, _, rfl, .inl (s1.seq hS), _, _, rfl, rfl, _, _, _, l.length / 6, rfl, ?_, for_rangeC (lo := 0) (c := 6) (n := l.length / 6)
      (fun i σ H' => ∃ v u x, σ = [some (.ref a), some (.ref o), v, u, x] ∧ Same H H' ∧ H' o = some (.lst (iv (Rp10.sixes (l.take (6 * i))))))
      ⟨none, none, none, rfl, s1, upd_same⟩ ?_ ?_⟩
    · rw [iv_length]
      exact rg6 _ hl
    · rintro i σ H' hi ⟨v, u, x, rfl, s5, ho⟩
      have hin : 6 * i + 6 ≤ l.length := by omega
      have e6 : ((0 : Int) + (i : Int) * 6) = ((6 * i : Nat) : Int) := by omega
      rw [e6]
      -- number = 0; for bit in bits[start:start + 6]
      refine ⟨_, rfl, _, rfl, _, rfl, _, rfl, _, _, rfl, rfl, _, rfl, _, _, rfl, s5.seq hS, fun c nc => ?_⟩
      have ec : cutV (iv l) (some ((6 * i : Nat) : Int)) (some (((6 * i : Nat) : Int) + 6)) = iv ((l.drop (6 * i)).take 6) := by
        rw [show (((6 * i : Nat) : Int) + 6) = ((6 * i + 6 : Nat) : Int) by omega, cut_mid _ _ _ (by rw [iv_length]; omega) (by rw [iv_length]; omega), iv_take, iv_drop, show 6 * i + 6 - 6 * i = 6 by omega]
      rw [ec]
      have l6 : ((l.drop (6 * i)).take 6).length = 6 := by
        rw [List.length_take, List.length_drop]
        omega
      have b6 : ∀ x ∈ (l.drop (6 * i)).take 6, x ≤ 1 := fun x hx => h1 x (List.mem_of_mem_drop (List.mem_of_mem_take hx))
      generalize hsx : (l.drop (6 * i)).take 6 = six at l6 b6
      have s6 : Same H (upd H' c (.lst (iv six))) := s5.trans (same_upd nc)
      have hoc : (upd H' c (.lst (iv six))) o = some (.lst (iv (Rp10.sixes (l.take (6 * i))))) := keep_at ho nc
      refine ⟨c, rfl, ⟨_, SqL.of upd_same⟩, for_list (K := K) (a := c) (xs := iv six)
        (fun j σ H2 => ∃ x, H2 = upd H' c (.lst (iv six)) ∧ σ = [some (.ref a), some (.ref o), some (.int ((6 * i : Nat) : Int)), some (.int ((Rp10.value (six.take j) : Nat) : Int)), x])
        ⟨x, rfl, rfl⟩ (fun j σ H2 _ ⟨_, e, _⟩ => by rw [e]; exact SqL.of upd_same) ?_ ?_⟩
      · rintro j y σ H2 hj ⟨x, rfl, rfl⟩
        obtain ⟨b, hbj, rfl⟩ := iv_at hj
        have hv : Rp10.value (six.take j) < 2 ^ j := by
          have hj6 : j < 6 := by
            have := (List.getElem?_eq_some_iff.mp hbj).1
            omega
          exact value_lt j _ (by rw [List.length_take]; omega) (fun x hx => b6 x (List.mem_of_mem_take hx))
        have hj6 : j < 6 := by
          have := (List.getElem?_eq_some_iff.mp hbj).1
          omega
        have hv2 : Rp10.value (six.take j) < 64 := Nat.lt_of_lt_of_le hv (Nat.pow_le_pow_right (by decide) (by omega : j ≤ 6))
        refine ⟨_, rfl, _, _, rfl, rfl, .inl ⟨by omega, by omega⟩, _, rfl, _, _, rfl, rfl, some (.int (b : Int)), rfl, ?_⟩
        rw [take_more hbj, value_append]
        show [some (V.ref a), some (V.ref o), some (V.int ((6 * i : Nat) : Int)), some (V.int (((Rp10.value (six.take j) : Nat) : Int) * 2 + (b : Int))), some (V.int (b : Int))] = _
        rw [Int.natCast_add, Int.natCast_mul]
        rfl
      · rintro σ H2 ⟨x, rfl, rfl⟩
        rw [iv_length, List.take_length]
        have hv : Rp10.value six < 64 := value_lt 6 six l6 b6
        refine ⟨_, rfl, .inl ⟨rfl, _, SqL.of hoc⟩, _, rfl, _, _, _, rfl, rfl, hz.1, atI_nat (hz.2 _ hv), _, rfl, rfl, o, _, _, rfl, rfl, hoc, ?_, ?_⟩
        · rw [iv_length, sixes_length _ _ (Nat.le_refl _), List.length_take]
          exact sizes_lt (by omega)
        · refine ⟨_, _, _, rfl, same_on no s6, ?_⟩
          rw [upd_same, sixes_take_more hin, hsx, iv_append]
          rfl
    · rintro σ H' ⟨v, u, x, rfl, s5, ho⟩
      rw [sixes_end _ l (by omega) (by omega)] at ho
      exact ⟨_, rfl, q H' o s5 no ho⟩
end
end Sc

namespace Sc
open PySem PySem.Spec PyProof.Rows L2
open Rp10 (Bytes)
abbrev sIsSec : Stmt := top 17
theorem scIsSec : FnScope ["row"] ["row"] (defScope sIsSec) := ⟨rfl, rfl, rfl, by decide +kernel, rfl, by decide +kernel, by decide +kernel⟩
def spIsSec (K : PySem.W.Frag) : Sp := fun vs H Q _ => ∃ (a : Addr) (s : Bytes), vs = [.ref a] ∧ SqL K H a (iv s) ∧ (∀ b ∈ s, b ≤ 255) ∧ Q (.bl (Rp10.isSecret s)) H
theorem iv_flat (s : List Nat) : (iv s).all flatV = true := by
  rw [List.all_eq_true]
  intro x hx
  obtain ⟨n, _, rfl⟩ := List.mem_map.mp (show x ∈ s.map _ from hx)
  rfl
theorem star_in : ∀ (s : List Nat), (∀ b ∈ s, b ≤ 255) → (!inV (.int 42) (iv s)) = s.all fun b => decide (b ≤ 255) && b != 42
  | [], _ => rfl
  | b :: s, h => by
    show (!(((b : Int) == 42) || inV (.int 42) (iv s))) = ((decide (b ≤ 255) && b != 42) && s.all fun b => decide (b ≤ 255) && b != 42)
    rw [Bool.not_or, star_in s fun x hx => h x (List.mem_cons_of_mem _ hx), decide_eq_true (h b List.mem_cons_self), Bool.true_and]
    have e : (!((b : Int) == 42)) = (b != 42) := by
      by_cases c : b = 42
      · subst c
        rfl
      · rw [bne_iff_ne.mpr c, beq_eq_false_iff_ne.mpr (by omega)]
        rfl
    rw [e]
section
variable {P : Program} {w : World} {K : PySem.W.Frag} {mg : Str → Option Value} {base : Heap}
theorem ok_issec {f : Addr} {fd : FuncData} {k : Nat} (F : Fun K "is_secret" "is_secret" sIsSec f fd) (ml : mg "len" = none) (m1 : ∃ t, mg "MOST_SECRET_BYTES" = some (.int 12 t)) (m2 : ∃ t, mg "STAR" = some (.int 42 t)) :
    FnOk P w K mg base CX0 (k + 1) f fd ["row"] (spIsSec K) := by
  obtain ⟨t1, m1⟩ := m1
  obtain ⟨t2, m2⟩ := m2
  refine F.ok scIsSec (fun vs H Q E h => ?_) (fun cdv A outer s0 H vs Q E hr h => ?_)
  · obtain ⟨a, s, rfl, _⟩ := h
    rfl
  · obtain ⟨a, s, rfl, hS, hb, q⟩ := h
    refine ⟨_, pss_one (ps_ret (pe_and (pe_chain op_le op_le pe_int (pe_callB call_len_seq (by rfl) ml PySem.boot_len (pa_cons (pv 0) pa_nil)) (pe_glob (v := .int 12) rfl m1 ⟨_, rfl⟩))
      (pe_one (pe_cmpR op_notIn_seq (pe_glob (v := .int 42) rfl m2 ⟨_, rfl⟩) (pv 0) (by rfl))))), ?_⟩
    refine ⟨_, rfl, a, _, rfl, .inl hS, _, _, rfl, rfl, _, rfl, ?_⟩
    rw [iv_length]
    by_cases c1 : (1 : Int) ≤ (s.length : Int)
    · rw [decide_eq_true c1]
      refine iteT ⟨_, _, rfl, rfl, _, rfl, ?_⟩
      by_cases c2 : (s.length : Int) ≤ 12
      · rw [decide_eq_true c2]
        refine iteT ⟨_, rfl, a, _, rfl, .inl hS, rfl, iv_flat s, ?_⟩
        rw [if_pos rfl, star_in s hb]
        have e : Rp10.isSecret s = s.all fun b => decide (b ≤ 255) && b != 42 := by
          unfold Rp10.isSecret Rp10.LONG
          rw [decide_eq_true (by omega), decide_eq_true (by omega)]
          rfl
        rw [← e]
        exact q
      · rw [decide_eq_false c2]
        refine iteF ?_
        have e : Rp10.isSecret s = false := by
          unfold Rp10.isSecret Rp10.LONG
          rw [decide_eq_false (p := s.length ≤ 12) (by omega), Bool.false_and, Bool.and_false]
        rw [e] at q
        exact q
    · rw [decide_eq_false c1]
      refine iteF ⟨_, rfl, iteF ?_⟩
      have e : Rp10.isSecret s = false := by
        unfold Rp10.isSecret
        rw [decide_eq_false (p := 1 ≤ s.length) (by omega), Bool.false_and]
      rw [e] at q
      exact q
end
end Sc

namespace Sc
open PySem PySem.Spec PyProof.Rows L2
open Rp10 (Bytes)
abbrev sMay : Stmt := top 18
theorem scMay : FnScope ["which", "row"] ["which", "row"] (defScope sMay) := ⟨rfl, rfl, rfl, by decide +kernel, rfl, by decide +kernel, by decide +kernel⟩
/-- which spellings, and of what: may they be asked for? -/
def mayB (m : Nat) (s : Bytes) : Bool := decide (1 ≤ m) && (decide (m ≤ 15) && Rp10.isSecret s)
theorem mayB_yes {m : Nat} {s : Bytes} (h : mayB m s = true) : ¬ (m = 0 ∨ 15 < m ∨ Rp10.isSecret s = false) := by
  unfold mayB at h
  rw [Bool.and_eq_true, Bool.and_eq_true, decide_eq_true_iff, decide_eq_true_iff] at h
  obtain ⟨h1, h2, h3⟩ := h
  rintro (z | z | z)
  · omega
  · omega
  · rw [h3] at z
    cases z
theorem mayB_no {m : Nat} {s : Bytes} (h : mayB m s = false) : m = 0 ∨ 15 < m ∨ Rp10.isSecret s = false := by
  by_cases c1 : 1 ≤ m
  · by_cases c2 : m ≤ 15
    · unfold mayB at h
      rw [decide_eq_true c1, decide_eq_true c2, Bool.true_and, Bool.true_and] at h
      exact .inr (.inr h)
    · exact .inr (.inl (by omega))
  · exact .inl (by omega)
def spMay (K : PySem.W.Frag) : Sp := fun vs H Q _ => ∃ (a : Addr) (m : Nat) (s : Bytes), vs = [.int (m : Int), .ref a] ∧ SqL K H a (iv s) ∧ (∀ b ∈ s, b ≤ 255) ∧ Q (.bl (mayB m s)) H
section
variable {P : Program} {w : World} {K : PySem.W.Frag} {mg : Str → Option Value} {base : Heap}
theorem ok_may {f : Addr} {fd : FuncData} (F : Fun K "may_be_spelled" "may_be_spelled" sMay f fd) (D1 : Df P w K mg base 1 "is_secret" ["row"] (spIsSec K)) :
    FnOk P w K mg base CX0 2 f fd ["which", "row"] (spMay K) := by
  obtain ⟨f1, fd1, g1, k1, b1, G1⟩ := D1.ex
  refine F.ok scMay (fun vs H Q E h => ?_) (fun cdv A outer s0 H vs Q E hr h => ?_)
  · obtain ⟨a, m, s, rfl, _⟩ := h
    rfl
  · obtain ⟨a, m, s, rfl, hS, hb, q⟩ := h
    refine ⟨_, pss_one (ps_ret (pe_and (pe_chain op_le op_le pe_int (pv 0) pe_int) (pe_one (pe_call G1 hr rfl g1 k1 b1 .nil pass0 (pa_cons (pv 1) pa_nil))))), ?_⟩
    refine ⟨_, rfl, _, _, rfl, rfl, _, rfl, ?_⟩
    unfold mayB at q
    by_cases c1 : (1 : Int) ≤ (m : Int)
    · rw [decide_eq_true c1]
      rw [decide_eq_true (p := 1 ≤ m) (by omega), Bool.true_and] at q
      refine iteT ⟨_, _, rfl, rfl, _, rfl, ?_⟩
      by_cases c2 : (m : Int) ≤ 15
      · rw [decide_eq_true c2]
        rw [decide_eq_true (p := m ≤ 15) (by omega), Bool.true_and] at q
        exact iteT ⟨_, rfl, a, s, rfl, hS, hb, q⟩
      · rw [decide_eq_false c2]
        rw [decide_eq_false (p := m ≤ 15) (by omega), Bool.false_and] at q
        exact iteF q
    · rw [decide_eq_false c1]
      rw [decide_eq_false (p := 1 ≤ m) (by omega), Bool.false_and] at q
      exact iteF ⟨_, rfl, iteF q⟩
end
end Sc

namespace Sc
open PySem PySem.Spec PyProof.Rows L2
open Rp10 (Bytes)
abbrev sInner : Stmt := top 22
theorem scInner : FnScope ["row", "bits", "rows", "signs"] ["row"] (defScope sInner) := ⟨rfl, rfl, rfl, by decide +kernel, rfl, by decide +kernel, by decide +kernel⟩
def long4 (c : Bytes) : Bool := decide (Rp10.CORE ≤ c.length)
def inner (s : Bytes) : List Bytes := ([0, 4, 2].map fun k => Rp10.core k s).filter fun c => decide (Rp10.CORE ≤ c.length)
def rLenK (K : PySem.W.Frag) : List V → Hp → VK → Prop := fun xs H Q => ∃ p ys, xs = [V.ref p] ∧ (SqL K H p ys ∨ SqT K H p ys) ∧ Q (V.int ys.length) H
def spInner (K : PySem.W.Frag) : Sp := fun vs H Q _ => ∃ (a : Addr) (s : Bytes), vs = [.ref a] ∧ SqL K H a (iv s) ∧ s.length ≤ 20 ∧
  ∀ H' p, NewRows H H' p (inner s) → Q (.ref p) H'
theorem filter_more {f : Bytes → Bool} {l : List Bytes} {i : Nat} {c : Bytes} (h : l[i]? = some c) : (l.take (i + 1)).filter f = (l.take i).filter f ++ (if f c = true then [c] else []) := by
  rw [take_more h, List.filter_append]
  by_cases q : f c = true
  · rw [if_pos q, List.filter_cons_of_pos q]
    rfl
  · rw [if_neg q, List.filter_cons_of_neg q]
    rfl
section
variable {P : Program} {w : World} {K : PySem.W.Frag} {mg : Str → Option Value} {base : Heap}
theorem ok_inner {f : Addr} {fd : FuncData} (F : Fun K "inner_rows" "inner_rows" sInner f fd) (ml : mg "len" = none) (mL : ∃ t, mg "LEAST_INNER_SIGNS" = some (.int 4 t))
    (D1 : Df P w K mg base 1 "bits_of" ["row"] (spBits K)) (D2 : Df P w K mg base 1 "sixes_of" ["bits"] (spSixes K)) :
    FnOk P w K mg base CX0 2 f fd ["row"] (spInner K) := by
  obtain ⟨tL, mL⟩ := mL
  obtain ⟨f1, fd1, g1, k1, b1, G1⟩ := D1.ex
  obtain ⟨f2, fd2, g2, k2, b2, G2⟩ := D2.ex
  refine F.ok scInner (fun vs H Q E h => ?_) (fun cdv A outer s0 H vs Q E hr h => ?_)
  · obtain ⟨a, s, rfl, _⟩ := h
    rfl
  · obtain ⟨a, s, rfl, hS, hl, q⟩ := h
    refine ⟨_, pss_cons (ps_set (i := 1) scInner.nd rfl (.inl rfl) (pe_call G1 hr rfl g1 k1 b1 .nil pass0 (pa_cons (pv 0) pa_nil)))
      (pss_cons (ps_set (i := 2) scInner.nd rfl (.inl rfl) (pe_lst (pa_cons (pe_call G2 hr rfl g2 k2 b2 .nil pass0 (pa_cons (pv 1) pa_nil))
        (pa_cons (pe_call G2 hr rfl g2 k2 b2 .nil pass0 (pa_cons (pe_slice sl_list (pv 1) (po_some pe_int) po_none) pa_nil))
        (pa_cons (pe_call G2 hr rfl g2 k2 b2 .nil pass0 (pa_cons (pe_slice sl_list (pv 1) (po_some pe_int) po_none) pa_nil)) pa_nil)))))
      (pss_one (ps_ret (pe_lc (own := [("signs", 3)]) (g := gName 3) (tt := tTest (tOp (rI0 fun i j => .bl (decide (j ≤ i))) (tCB (rLenK K) (tCons (tVar 3) tNil)) (tC (.int 4)))) (te := tVar 3) rfl scInner.nd (pi_list (pv 2)) (blkOk_by (N := ["row", "bits", "rows", "signs"]) (sc := defScope sInner) (by decide +kernel))
        (fun _ _ _ _ _ => pg_name (i := 3) scInner.nd rfl (Or.inl rfl))
        (fun _ _ _ _ _ => pts_one (pt_cmpR op_ge (pe_callB call_len_seq (by rfl) ml PySem.boot_len (pa_cons (pv 3) pa_nil)) (pe_glob (v := .int 4) rfl mL ⟨_, rfl⟩) (nomark _)))
        (fun _ _ _ _ _ => pv 3))))), ?_⟩
    have hbl : (Rp10.bits s).length ≤ 160 := by
      rw [bits_length]
      omega
    have hb1 : ∀ x ∈ Rp10.bits s, x ≤ 1 := fun x hx => bits_le hx
    refine ⟨_, rfl, a, s, rfl, hS, hl, fun H1 pb s1 nb hb => ?_⟩
    -- the three rows
    refine ⟨_, rfl, pb, Rp10.bits s, rfl, SqL.of hb, hbl, hb1, fun H2 p1 s2 n1 h1 => ?_⟩
    have hb2 := s2 _ _ hb
    refine ⟨_, rfl, _, rfl, _, _, rfl, SqL.of hb2, fun c1 nc1 => ?_⟩
    refine ⟨c1, (Rp10.bits s).drop 4, rfl, SqL.of (by rw [upd_same, iv_drop]; exact congrArg (fun z => some (HO.lst z)) (cut_from (iv (Rp10.bits s)) 4)), by rw [List.length_drop]; omega, fun x hx => hb1 x (List.mem_of_mem_drop hx), fun H3 p2 s3 n2 h2 => ?_⟩
    have s23 : Same H2 H3 := (same_upd nc1).trans s3
    have hb3 := s23 _ _ hb2
    refine ⟨_, rfl, _, rfl, _, _, rfl, SqL.of hb3, fun c2 nc2 => ?_⟩
    refine ⟨c2, (Rp10.bits s).drop 2, rfl, SqL.of (by rw [upd_same, iv_drop]; exact congrArg (fun z => some (HO.lst z)) (cut_from (iv (Rp10.bits s)) 2)), by rw [List.length_drop]; omega, fun x hx => hb1 x (List.mem_of_mem_drop hx), fun H4 p3 s4 n3 h3 => ?_⟩
    have s34 : Same H3 H4 := (same_upd nc2).trans s4
    refine ⟨by show 3 ≤ sizeLine; decide, fun r nr => ?_⟩
    -- all that is new is new ahead
    have s12 : Same H H2 := s1.trans s2
    have s13 : Same H H3 := s12.trans s23
    have s14 : Same H H4 := s13.trans s34
    have s5 : Same H4 (upd H4 r (.lst [.ref p1, .ref p2, .ref p3])) := same_upd nr
    have e1 : H p1 = none := free_of s1 n1
    have e2 : H p2 = none := free_of (s12.trans (same_upd nc1)) n2
    have e3 : H p3 = none := free_of (s13.trans (same_upd nc2)) n3
    have er : H r = none := free_of s14 nr
    generalize hcs : ([0, 4, 2].map fun k => Rp10.core k s) = cs
    have R4 : RowsAt (upd H4 r (.lst [.ref p1, .ref p2, .ref p3])) [p1, p2, p3] cs := by
      refine RowsAt.same ?_ s5
      rw [← hcs]
      exact (RowsAt.one (s34 _ _ (s23 _ _ h1))).app ((RowsAt.one (p := Rp10.core 4 s) (s34 _ _ h2)).app (RowsAt.one (p := Rp10.core 2 s) h3))
    generalize hH5 : upd H4 r (.lst [.ref p1, .ref p2, .ref p3]) = H5 at s5 R4
    have hr5 : H5 r = some (.lst (rv [p1, p2, p3])) := by rw [← hH5]; exact upd_same
    refine ⟨_, rfl, r, rfl, ⟨_, SqL.of hr5⟩, fun D nD => lc_list (K := K) (a := r) (xs := rv [p1, p2, p3])
      (fun i H' => Same H5 H' ∧ ∃ as : List Addr, H' D = some (.lst (rv as)) ∧ RowsAt H' as ((cs.take i).filter long4) ∧ as.length ≤ i ∧ ∀ a ∈ as, a ∈ [p1, p2, p3])
      ⟨same_upd nD, [], upd_same, RowsAt.nil, Nat.le_refl _, fun a h => by cases h⟩ (fun i H' _ ⟨s6, _⟩ => s6.seq (SqL.of hr5)) ?_ ?_⟩
    · rintro i x H' hi ⟨s6, as, hD, R6, hla, hm⟩
      obtain ⟨pi, hpi, rfl⟩ := rv_at hi
      obtain ⟨c, hc, hpc⟩ := R4.get hpi
      have hpc' := s6 _ _ hpc
      have hi3 : i < 3 := (List.getElem?_eq_some_iff.mp hpi).1
      refine ⟨rfl, _, rfl, pi, _, rfl, .inl (SqL.of hpc'), _, _, rfl, rfl, _, rfl, ?_⟩
      rw [iv_length]
      by_cases q4 : (4 : Int) ≤ (c.length : Int)
      · rw [decide_eq_true q4]
        refine iteT ⟨_, rfl, _, hD, ?_, ?_⟩
        · rw [rv_length]
          exact sizes_lt (by omega)
        · have nDp : ∀ a ∈ as ++ [pi], a ≠ D := fun a ha => by
            have ha' : a ∈ [p1, p2, p3] := by
              rcases List.mem_append.mp ha with h | h
              · exact hm a h
              · rw [List.mem_singleton] at h
                subst h
                exact List.mem_of_getElem? hpi
            obtain ⟨p, _, hp⟩ := R4.mem ha'
            exact ne_of_none hp nD
          refine ⟨fun b o e => ?_, as ++ [pi], ?_, ?_, ?_, ?_⟩
          · rw [upd_ne (ne_of_none e nD)]
            exact s6 b o e
          · rw [upd_same, rv_append]
            rfl
          · rw [filter_more hc, if_pos (show long4 c = true from decide_eq_true (show 4 ≤ c.length by omega))]
            exact (R6.app (RowsAt.one hpc')).upd fun h => nDp D h rfl
          · rw [List.length_append]
            show as.length + 1 ≤ i + 1
            omega
          · intro a ha
            rcases List.mem_append.mp ha with h | h
            · exact hm a h
            · rw [List.mem_singleton] at h
              subst h
              exact List.mem_of_getElem? hpi
      · rw [decide_eq_false q4]
        refine iteF ⟨s6, as, hD, ?_, by omega, hm⟩
        rw [filter_more hc, if_neg (show ¬ long4 c = true from fun z => q4 (by have := of_decide_eq_true z; have h4 : 4 ≤ c.length := this; omega)), List.append_nil]
        exact R6
    · rintro H' ⟨s6, as, hD, R6, hla, hm⟩
      have s15 : Same H H5 := s14.trans s5
      rw [List.take_of_length_le (by rw [← R4.len]; exact Nat.le_refl 3)] at R6
      refine q H' D ⟨s15.trans s6, free_of s15 nD, as, hD, ?_, fun a ha => ?_, fun h => ?_⟩
      · unfold inner
        rw [hcs]
        exact R6
      · have := hm a ha
        simp only [List.mem_cons, List.not_mem_nil, or_false] at this
        rcases this with rfl | rfl | rfl
        · exact e1
        · exact e2
        · exact e3
      · obtain ⟨p, _, hp⟩ := R4.mem (hm D h)
        rw [nD] at hp
        cases hp
end
end Sc

namespace Sc
open PySem PySem.Spec PyProof.Rows L2
open Rp10 (Bytes)
abbrev sSpell : Stmt := top 23
theorem scSpell : FnScope ["which", "row", "spellings"] ["which", "row"] (defScope sSpell) := ⟨rfl, rfl, rfl, by decide +kernel, rfl, by decide +kernel, by decide +kernel⟩
def spSpell (K : PySem.W.Frag) : Sp := fun vs H Q _ => ∃ (a : Addr) (m : Nat) (s : Bytes), vs = [.int (m : Int), .ref a] ∧ SqL K H a (iv s) ∧ (∀ b ∈ s, b ≤ 255) ∧ s.length ≤ 20 ∧
  ∀ H' p, NewRows H H' p (Rp10.spellings m s) → Q (.ref p) H'
/-- an if without an else, both of whose ways go on from a heap of which Jn holds -/
theorem ite_via {b : Bool} {A : Prop} {NX : Hp → Prop} {H1 : Hp} (Jn : Hp → Prop) (ht : b = true → (∀ H', Jn H' → NX H') → A) (he : b = false → Jn H1) (rest : ∀ H', Jn H' → NX H') : if b = true then A else NX H1 := by
  cases b with
  | true => exact iteT (ht rfl rest)
  | false => exact iteF (rest _ (he rfl))
theorem and_pow (m i : Nat) : (m &&& 2 ^ i) = 0 ↔ m.testBit i = false := by
  constructor
  · intro h
    have e : (m &&& 2 ^ i).testBit i = false := by
      rw [h]
      exact Nat.zero_testBit i
    rw [Nat.testBit_and, Nat.testBit_two_pow_self, Bool.and_true] at e
    exact e
  · intro h
    apply Nat.eq_of_testBit_eq
    intro j
    rw [Nat.testBit_and, Nat.testBit_two_pow, Nat.zero_testBit]
    by_cases c : i = j
    · subst c
      rw [h, Bool.false_and]
    · rw [decide_eq_false c, Bool.and_false]
theorem bit_test (m i : Nat) : (Builtin.bitAnd (m : Int) ((2 ^ i : Nat) : Int) != 0) = Rp10.bit m i := by
  rw [bitAnd_pp (Int.natCast_nonneg _) (Int.natCast_nonneg _), Int.toNat_natCast, Int.toNat_natCast]
  have e : Rp10.bit m i = m.testBit i := by
    unfold Rp10.bit
    rw [Nat.testBit_eq_decide_div_mod_eq]
    rfl
  rw [e]
  have h := and_pow m i
  cases c : m.testBit i with
  | false =>
    rw [h.mpr c]
    rfl
  | true =>
    rw [bne_iff_ne]
    intro z
    have : (m &&& 2 ^ i) = 0 := by omega
    rw [h.mp this] at c
    cases c
theorem NewRows.push {H H' H2 : Hp} {o c : Addr} {ps : List Bytes} {p : Bytes} (N : NewRows H H' o ps) (s : Same H' H2) (hc : H' c = none) (h2 : H2 c = some (.lst (iv p))) :
    ∃ as : List Addr, H2 o = some (.lst (rv as)) ∧ as.length = ps.length ∧ NewRows H (upd H2 o (.lst (rv as ++ [.ref c]))) o (ps ++ [p]) := by
  obtain ⟨as, ho, R, hn, ha⟩ := N.ex
  have hco : c ≠ o := fun e => by
    subst e
    rw [hc] at ho
    cases ho
  have hm : o ∉ as ++ [c] := fun h => by
    rcases List.mem_append.mp h with h | h
    · exact ha h
    · rw [List.mem_singleton] at h
      exact hco h.symm
  refine ⟨as, s _ _ ho, R.len, same_on N.new (N.same.trans s), N.new, as ++ [c], ?_, ?_, fun a h => ?_, hm⟩
  · rw [upd_same, rv_append]
    rfl
  · exact ((R.same s).app (RowsAt.one h2)).upd hm
  · rcases List.mem_append.mp h with h | h
    · exact hn a h
    · rw [List.mem_singleton] at h
      subst h
      exact free_of N.same hc
theorem NewRows.ext {H H' H2 : Hp} {o c : Addr} {ps qs : List Bytes} (N : NewRows H H' o ps) (M : NewRows H' H2 c qs) :
    ∃ as bs : List Addr, H2 o = some (.lst (rv as)) ∧ H2 c = some (.lst (rv bs)) ∧ as.length = ps.length ∧ bs.length = qs.length ∧ NewRows H (upd H2 o (.lst (rv as ++ rv bs))) o (ps ++ qs) := by
  obtain ⟨as, ho, R, hn, ha⟩ := N.ex
  obtain ⟨bs, hc, R2, hn2, hb⟩ := M.ex
  have hm : o ∉ as ++ bs := fun h => by
    rcases List.mem_append.mp h with h | h
    · exact ha h
    · have := hn2 o h
      rw [ho] at this
      cases this
  refine ⟨as, bs, M.same _ _ ho, hc, R.len, R2.len, same_on N.new (N.same.trans M.same), N.new, as ++ bs, ?_, ?_, fun a h => ?_, hm⟩
  · rw [upd_same, rv_append]
  · exact ((R.same M.same).app R2).upd hm
  · rcases List.mem_append.mp h with h | h
    · exact hn a h
    · exact free_of N.same (hn2 a h)
theorem inner_few (s : Bytes) : (inner s).length ≤ 3 := by
  unfold inner
  exact Nat.le_trans (List.length_filter_le _ _) (by simp)
def optp (b : Bool) (p : Bytes) : List Bytes := if b = true then [p] else []
theorem optp_le (b : Bool) (p : Bytes) : (optp b p).length ≤ 1 := by
  unfold optp
  cases b <;> simp
section
variable {P : Program} {w : World} {K : PySem.W.Frag} {mg : Str → Option Value} {base : Heap}
theorem ok_spell {f : Addr} {fd : FuncData} {zs zl : Str} (F : Fun K "spellings_of" "spellings_of" sSpell f fd) (ml : mg "list" = none)
    (mS : ∃ t, mg "SMALL_SIXTEENS" = some (.str zs t)) (mL : ∃ t, mg "LARGE_SIXTEENS" = some (.str zl t)) (hs : Digits zs false) (hL : Digits zl true)
    (D1 : Df P w K mg base 1 "in_sixteens" ["row", "signs"] (spHex K)) (D2 : Df P w K mg base 2 "inner_rows" ["row"] (spInner K)) :
    FnOk P w K mg base CX0 3 f fd ["which", "row"] (spSpell K) := by
  obtain ⟨tS, mS⟩ := mS
  obtain ⟨tL, mL⟩ := mL
  obtain ⟨f1, fd1, g1, k1, b1, G1⟩ := D1.ex
  obtain ⟨f2, fd2, g2, k2, b2, G2⟩ := D2.ex
  refine F.ok scSpell (fun vs H Q E h => ?_) (fun cdv A outer s0 H vs Q E hr h => ?_)
  · obtain ⟨a, m, s, rfl, _⟩ := h
    rfl
  · obtain ⟨a, m, s, rfl, hS, hb, hl, q⟩ := h
    have hr1 := hr.mono (show 1 ≤ 2 by decide)
    refine ⟨_, pss_cons (ps_set (i := 2) scSpell.nd rfl (.inl rfl) (pe_lst pa_nil))
      (pss_cons (ps_if (pt_truth (pe_op op_and (pv 0) pe_int) (by intro _; rfl))
        (pss_one (ps_expr (pe_bm PySem.F.plainAttrs_list PySem.F.slot_list_append PySem.F.type_list_append mt_append (pv 2)
          (pa_cons (pe_callTy call_list_of (by rfl) ml PyProof.Rows.boot_list (pa_cons (pv 1) pa_nil)) pa_nil)))) pss_nil)
      (pss_cons (ps_if (pt_truth (pe_op op_and (pv 0) pe_int) (by intro _; rfl))
        (pss_one (ps_expr (pe_bm PySem.F.plainAttrs_list PySem.F.slot_list_append PySem.F.type_list_append mt_append (pv 2)
          (pa_cons (pe_call G1 hr1 rfl g1 k1 b1 .nil pass0 (pa_cons (pv 1) (pa_cons (pe_glob (v := .str zs) rfl mS ⟨_, rfl⟩) pa_nil))) pa_nil)))) pss_nil)
      (pss_cons (ps_if (pt_truth (pe_op op_and (pv 0) pe_int) (by intro _; rfl))
        (pss_one (ps_expr (pe_bm PySem.F.plainAttrs_list PySem.F.slot_list_append PySem.F.type_list_append mt_append (pv 2)
          (pa_cons (pe_call G1 hr1 rfl g1 k1 b1 .nil pass0 (pa_cons (pv 1) (pa_cons (pe_glob (v := .str zl) rfl mL ⟨_, rfl⟩) pa_nil))) pa_nil)))) pss_nil)
      (pss_cons (ps_if (pt_truth (pe_op op_and (pv 0) pe_int) (by intro _; rfl))
        (pss_one (ps_expr (pe_bm PySem.F.plainAttrs_list PySem.F.slot_list_extend PySem.F.type_list_extend mt_extend (pv 2)
          (pa_cons (pe_call G2 hr rfl g2 k2 b2 .nil pass0 (pa_cons (pv 1) pa_nil)) pa_nil)))) pss_nil)
      (pss_one (ps_ret (pv 2))))))), ?_⟩
    have t0 : (Builtin.bitAnd (m : Int) 1 != 0) = Rp10.bit m 0 := bit_test m 0
    have t1 : (Builtin.bitAnd (m : Int) 2 != 0) = Rp10.bit m 1 := bit_test m 1
    have t2 : (Builtin.bitAnd (m : Int) 4 != 0) = Rp10.bit m 2 := bit_test m 2
    have t3 : (Builtin.bitAnd (m : Int) 8 != 0) = Rp10.bit m 3 := bit_test m 3
    refine ⟨Nat.zero_le _, fun o no => ?_⟩
    have N0 : NewRows H (upd H o (.lst [])) o [] := ⟨same_upd no, no, [], upd_same, RowsAt.nil, (fun a h => by cases h), (fun h => by cases h)⟩
    generalize upd H o (.lst []) = H0 at N0
    have l1 := optp_le (Rp10.bit m 0) s
    have l2 := optp_le (Rp10.bit m 1) (Rp10.hex false s)
    have l3 := optp_le (Rp10.bit m 2) (Rp10.hex true s)
    -- itself
    refine ⟨_, rfl, _, _, rfl, rfl, _, rfl, ?_⟩
    rw [t0]
    refine ite_via (fun H' => NewRows H H' o (optp (Rp10.bit m 0) s)) (fun hb0 nx => ?_) (fun hb0 => ?_) (fun H1 N1 => ?_)
    · obtain ⟨as0, ho0, _⟩ := N0.ex
      refine ⟨_, rfl, .inl ⟨rfl, _, SqL.of ho0⟩, _, rfl, a, _, rfl, .inl (N0.same.seq hS), fun c nc => ?_⟩
      obtain ⟨as, ho, hla, N⟩ := N0.push (same_upd nc) nc (upd_same (o := .lst (iv s)))
      refine ⟨o, _, _, rfl, rfl, ho, ?_, ?_⟩
      · rw [rv_length, hla]
        exact sizes_lt (by show 0 < _; decide)
      · refine nx _ ?_
        rw [hb0]
        exact N
    · rw [hb0]
      exact N0
    -- in sixteens, small
    refine ⟨_, rfl, _, _, rfl, rfl, _, rfl, ?_⟩
    rw [t1]
    refine ite_via (fun H' => NewRows H H' o (optp (Rp10.bit m 0) s ++ optp (Rp10.bit m 1) (Rp10.hex false s))) (fun hb0 nx => ?_) (fun hb0 => ?_) (fun H2 N2 => ?_)
    · obtain ⟨as0, ho0, _⟩ := N1.ex
      refine ⟨_, rfl, .inl ⟨rfl, _, SqL.of ho0⟩, _, rfl, a, s, zs, false, rfl, N1.same.seq hS, hb, hl, hs, fun H' c sc nc hc => ?_⟩
      obtain ⟨as, ho, hla, N⟩ := N1.push sc nc hc
      refine ⟨o, _, _, rfl, rfl, ho, ?_, ?_⟩
      · rw [rv_length, hla]
        exact sizes_lt (by omega)
      · refine nx _ ?_
        rw [hb0]
        exact N
    · rw [hb0]
      show NewRows H H1 o (_ ++ [])
      rw [List.append_nil]
      exact N1
    -- in sixteens, capitals
    refine ⟨_, rfl, _, _, rfl, rfl, _, rfl, ?_⟩
    rw [t2]
    refine ite_via (fun H' => NewRows H H' o ((optp (Rp10.bit m 0) s ++ optp (Rp10.bit m 1) (Rp10.hex false s)) ++ optp (Rp10.bit m 2) (Rp10.hex true s))) (fun hb0 nx => ?_) (fun hb0 => ?_) (fun H3 N3 => ?_)
    · obtain ⟨as0, ho0, _⟩ := N2.ex
      refine ⟨_, rfl, .inl ⟨rfl, _, SqL.of ho0⟩, _, rfl, a, s, zl, true, rfl, N2.same.seq hS, hb, hl, hL, fun H' c sc nc hc => ?_⟩
      obtain ⟨as, ho, hla, N⟩ := N2.push sc nc hc
      refine ⟨o, _, _, rfl, rfl, ho, ?_, ?_⟩
      · rw [rv_length, hla, List.length_append]
        exact sizes_lt (by omega)
      · refine nx _ ?_
        rw [hb0]
        exact N
    · rw [hb0]
      show NewRows H H2 o (_ ++ [])
      rw [List.append_nil]
      exact N2
    -- within base 64
    refine ⟨_, rfl, _, _, rfl, rfl, _, rfl, ?_⟩
    rw [t3]
    refine ite_via (fun H' => NewRows H H' o (((optp (Rp10.bit m 0) s ++ optp (Rp10.bit m 1) (Rp10.hex false s)) ++ optp (Rp10.bit m 2) (Rp10.hex true s)) ++ (if Rp10.bit m 3 = true then inner s else []))) (fun hb0 nx => ?_) (fun hb0 => ?_) (fun H4 N4 => ?_)
    · obtain ⟨as0, ho0, _⟩ := N3.ex
      refine ⟨_, rfl, .inl ⟨rfl, _, SqL.of ho0⟩, _, rfl, a, s, rfl, N3.same.seq hS, hl, fun H' c M => ?_⟩
      obtain ⟨as, bs, ho, hc, hla, hlb, N⟩ := N3.ext M
      have := inner_few s
      refine ⟨o, c, _, _, rfl, rfl, ho, hc, ?_, ?_⟩
      · rw [rv_length, rv_length, hla, hlb, List.length_append, List.length_append]
        exact sizes (by omega)
      · refine nx _ ?_
        rw [hb0]
        exact N
    · rw [hb0]
      show NewRows H H3 o (_ ++ [])
      rw [List.append_nil]
      exact N3
    refine ⟨_, rfl, q H4 o ?_⟩
    rw [List.append_assoc, List.append_assoc] at N4
    exact N4
end
end Sc

namespace Sc
open PySem PySem.Spec PyProof.Rows L2
open Rp10 (Bytes)
/-! two lists of whole numbers, == -/
def dd (l : List Nat) : List PyData := l.map fun (n : Nat) => PyData.int (n : Int)
theorem dd_dp {K : PySem.W.Frag} {H : Hp} : ∀ l : List Nat, DpAll K H (iv l) (dd l)
  | [] => .nil
  | n :: l => .cons (.int _) (dd_dp l)
theorem dp_of {K : PySem.W.Frag} {H : Hp} {a : Addr} {l : List Nat} (h : SqL K H a (iv l)) : Dp K H (.ref a) (.list (dd l)) := .lst h (dd_dp l)
theorem dd_can : ∀ l : List Nat, PyData.canLayAll0 (dd l) = true
  | [] => by
    show PyData.canLayAll0 [] = true
    rw [PyData.canLayAll0]
  | n :: l => by
    show PyData.canLayAll0 (PyData.int (n : Int) :: dd l) = true
    rw [PyData.canLayAll0, PyData.canLay0, dd_can l]
    rfl
theorem dd_depth : ∀ l : List Nat, PyData.depthAll (dd l) = 0
  | [] => by
    show PyData.depthAll [] = 0
    rw [PyData.depthAll]
  | n :: l => by
    show PyData.depthAll (PyData.int (n : Int) :: dd l) = 0
    rw [PyData.depthAll, PyData.depth, dd_depth l]
    rfl
theorem dd_shaped (l : List Nat) : SeqAt.shaped (.list (dd l)) = true := by
  unfold SeqAt.shaped
  rw [PyData.canLay0, PyData.depth, dd_can, dd_depth]
  decide
theorem dd_eqv : ∀ l r : List Nat, PyData.eqvAll (dd l) (dd r) = decide (l = r)
  | [], [] => by
    show PyData.eqvAll [] [] = _
    rw [PyData.eqvAll]
    rfl
  | [], b :: r => by
    show PyData.eqvAll [] (PyData.int (b : Int) :: dd r) = _
    rw [PyData.eqvAll]
    rfl
  | a :: l, [] => by
    show PyData.eqvAll (PyData.int (a : Int) :: dd l) [] = _
    rw [PyData.eqvAll]
    rfl
  | a :: l, b :: r => by
    show PyData.eqvAll (PyData.int (a : Int) :: dd l) (PyData.int (b : Int) :: dd r) = _
    rw [PyData.eqvAll, PyData.eqv, dd_eqv l r]
    by_cases c : a = b
    · subst c
      simp
    · rw [beq_eq_false_iff_ne.mpr (show (a : Int) ≠ (b : Int) by omega), Bool.false_and, decide_eq_false]
      intro e
      exact c (List.cons.inj e).1
theorem eq_lists (l r : List Nat) : PyData.eqv (.list (dd l)) (.list (dd r)) = decide (l = r) := by
  rw [PyData.eqv, dd_eqv]
end Sc

namespace Sc
open PySem PySem.Spec PyProof.Rows L2
open Rp10 (Bytes)
abbrev sCov : Stmt := top 24
theorem scCov : FnScope ["text", "spellings", "covered", "spelling", "size", "start", "place"] ["text", "spellings"] (defScope sCov) := ⟨rfl, rfl, rfl, by decide +kernel, rfl, by decide +kernel, by decide +kernel⟩
def spCov (K : PySem.W.Frag) : Sp := fun vs H Q _ => ∃ (a b : Addr) (t : Bytes) (as : List Addr) (ps : List Bytes), vs = [.ref a, .ref b] ∧ SqL K H a (iv t) ∧ t.length ≤ 320 ∧ SqL K H b (rv as) ∧ RowsAt H as ps ∧ (∀ p ∈ ps, p.length ≤ 24) ∧
  ∀ H' p, Same H H' → H p = none → H' p = some (.lst (bv (Rp10.covered ps 0 t))) → Q (.ref p) H'
theorem rep_false (n : Nat) : (List.replicate n [V.bl false]).flatten = bv (List.replicate n false) := by
  induction n with
  | zero => rfl
  | succ n ih =>
    rw [List.replicate_succ, List.flatten_cons, ih, List.replicate_succ]
    rfl
theorem bv_set (c : List Bool) (j : Nat) : (bv c).set j (.bl true) = bv (c.set j true) := (List.map_set ..).symm
section
variable {P : Program} {w : World} {K : PySem.W.Frag} {mg : Str → Option Value} {base : Heap}
theorem ok_cov {f : Addr} {fd : FuncData} {k : Nat} (F : Fun K "covered_places" "covered_places" sCov f fd) (ml : mg "len" = none) (mr : mg "range" = none) :
    FnOk P w K mg base CX0 (k + 1) f fd ["text", "spellings"] (spCov K) := by
  refine F.ok scCov (fun vs H Q E h => ?_) (fun cdv A outer s0 H vs Q E hr h => ?_)
  · obtain ⟨a, b, t, as, ps, rfl, _⟩ := h
    rfl
  · obtain ⟨a, b, t, as, ps, rfl, hT, hl, hB, R, hps, q⟩ := h
    refine ⟨_, pss_cons (ps_set (i := 2) scCov.nd rfl (.inl rfl) (pe_op op_rep (pe_lst (pa_cons pe_bl pa_nil)) (pe_callB call_len_seq (by rfl) ml PySem.boot_len (pa_cons (pv 0) pa_nil))))
      (pss_cons (ps_for PassesOwn.never rfl (pi_list (pv 1)) (pg_name (i := 3) scCov.nd rfl (.inl rfl))
        (pss_cons (ps_set (i := 4) scCov.nd rfl (.inl rfl) (pe_callB call_len_seq (by rfl) ml PySem.boot_len (pa_cons (pv 3) pa_nil)))
        (pss_one (ps_for PassesOwn.never rfl (pi_range1 rfl mr (pa_cons (pe_op op_add (pe_op op_sub (pe_callB call_len_seq (by rfl) ml PySem.boot_len (pa_cons (pv 0) pa_nil)) (pv 4)) pe_int) pa_nil)) (pg_name (i := 5) scCov.nd rfl (.inl rfl))
          (pss_one (ps_if (pt_cmpR (op_eqD hr.units) (pe_slice sl_list (pv 0) (po_some (pv 5)) (po_some (pe_op op_add (pv 5) (pv 4)))) (pv 3) (nomark _))
            (pss_one (ps_for PassesOwn.never rfl (pi_range2 rfl mr (pa_cons (pv 5) (pa_cons (pe_op op_add (pv 5) (pv 4)) pa_nil))) (pg_name (i := 6) scCov.nd rfl (.inl rfl))
              (pss_one (ps_asg pe_bl (pg_sub (pv 2) (pv 6) set_list)))))
            pss_nil))))))
      (pss_one (ps_ret (pv 2)))), ?_⟩
    -- covered = [False] * len(text)
    refine ⟨by show 1 ≤ sizeLine; decide, fun l0 n0 => ?_⟩
    have s0' : Same H (upd H l0 (.lst [.bl false])) := same_upd n0
    refine ⟨_, rfl, a, _, rfl, .inl (s0'.seq hT), l0, _, _, rfl, rfl, upd_same, ?_, ?_, ?_, fun o no => ?_⟩
    · rw [iv_length]; omega
    · rw [iv_length]; omega
    · rw [iv_length, Int.toNat_natCast]
      exact sizes (by show 1 * t.length ≤ 16777216; omega)
    rw [iv_length, Int.toNat_natCast, rep_false]
    have s1 : Same H (upd (upd H l0 (.lst [.bl false])) o (.lst (bv (List.replicate t.length false)))) := s0'.trans (same_upd no)
    have no' : H o = none := free_of s0' no
    -- for spelling in spellings
    refine ⟨_, rfl, b, rfl, ⟨_, s1.seq hB⟩, for_list (K := K) (a := b) (xs := rv as)
      (fun i σ H' => ∃ x3 x4 x5 x6 c, σ = [some (.ref a), some (.ref b), some (.ref o), x3, x4, x5, x6] ∧ Same H H' ∧ H' o = some (.lst (bv c)) ∧ Marks c t.length (CovA ps t i))
      ⟨none, none, none, none, _, rfl, s1, upd_same, marks_start ps t⟩ (fun i σ H' _ ⟨_, _, _, _, _, _, s5, _⟩ => s5.seq hB) ?_ ?_⟩
    · rintro i y σ H1 hi ⟨x3, x4, x5, x6, c, rfl, s5, ho, M⟩
      obtain ⟨pa, hpa, rfl⟩ := rv_at hi
      obtain ⟨p, hp, hpH⟩ := R.get hpa
      have hp24 : p.length ≤ 24 := hps p (List.mem_of_getElem? hp)
      -- size = len(spelling); for start in range(len(text) - size + 1)
      refine ⟨_, rfl, pa, _, rfl, .inl (SqL.of (s5 _ _ hpH)), ?_⟩
      rw [iv_length]
      refine ⟨_, rfl, a, _, rfl, .inl (s5.seq hT), _, rfl, _, _, rfl, rfl, _, _, rfl, rfl, _, rfl, ?_, ?_, ?_⟩
      · rw [iv_length]; omega
      · rw [iv_length]; omega
      have eL : (iv t).length = t.length := iv_length t
      refine for_range (lo := 0)
        (fun st σ H' => ∃ x5 x6 c, σ = [some (.ref a), some (.ref b), some (.ref o), some (.ref pa), some (.int (p.length : Int)), x5, x6] ∧ Same H H' ∧ H' o = some (.lst (bv c)) ∧ Marks c t.length (CovB ps t i p st))
        ⟨x5, x6, c, rfl, s5, ho, marks_b0 M⟩ ?_ ?_
      · rintro st σ H2 hst ⟨x5, x6, c, rfl, s6, ho2, M2⟩
        rw [eL] at hst
        have hle : st + p.length ≤ t.length := by omega
        have e0 : ((0 : Int) + (st : Int)) = (st : Int) := by omega
        rw [e0]
        -- text[start:start + size] == spelling
        refine ⟨_, rfl, _, rfl, _, rfl, _, rfl, _, rfl, _, _, rfl, rfl, _, rfl, a, _, rfl, s6.seq hT, fun sl nsl => ?_⟩
        have s7 : Same H (upd H2 sl (.lst (cutV (iv t) (some (st : Int)) (some ((st : Int) + (p.length : Int)))))) := s6.trans (same_upd nsl)
        have ec : cutV (iv t) (some (st : Int)) (some ((st : Int) + (p.length : Int))) = iv ((t.drop st).take p.length) := by
          rw [show (st : Int) + (p.length : Int) = ((st + p.length : Nat) : Int) by omega, cut_mid _ _ _ (by rw [iv_length]; omega) (by rw [iv_length]; omega), iv_take, iv_drop, Nat.add_sub_cancel_left]
        have hsl : (upd H2 sl (.lst (cutV (iv t) (some (st : Int)) (some ((st : Int) + (p.length : Int)))))) sl = some (.lst (iv ((t.drop st).take p.length))) := by
          rw [upd_same, ec]
        have ho3 := keep_at (o := .lst (cutV (iv t) (some (st : Int)) (some ((st : Int) + (p.length : Int))))) ho2 nsl
        generalize upd H2 sl (.lst (cutV (iv t) (some (st : Int)) (some ((st : Int) + (p.length : Int))))) = H3 at s7 hsl ho3
        refine ⟨_, rfl, _, _, dp_of (SqL.of hsl), dp_of (SqL.of (s7 _ _ hpH)), dd_shaped _, dd_shaped _, _, rfl, ?_⟩
        rw [eq_lists]
        by_cases hpre : (t.drop st).take p.length = p
        · rw [decide_eq_true hpre]
          refine iteT ?_
          -- for place in range(start, start + size)
          refine ⟨_, rfl, _, rfl, _, rfl, _, _, rfl, rfl, _, _, rfl, ⟨by omega, by omega, by omega, by omega⟩, ?_⟩
          have en : ((st : Int) + (p.length : Int) - (st : Int)).toNat = p.length := by omega
          refine for_range (lo := (st : Int))
            (fun j σ H' => ∃ x6 c, σ = [some (.ref a), some (.ref b), some (.ref o), some (.ref pa), some (.int (p.length : Int)), some (.int (st : Int)), x6] ∧ Same H H' ∧ H' o = some (.lst (bv c)) ∧ Marks c t.length (CovC ps t i p st j))
            ⟨x6, c, rfl, s7, ho3, marks_c0 M2⟩ ?_ ?_
          · rintro j σ H4 hj ⟨x6, c, rfl, s8, ho4, M4⟩
            rw [en] at hj
            have hx : ixN (bv c).length ((st : Int) + (j : Int)) = some (st + j) := by
              unfold ixN
              rw [bv_length, M4.len, if_pos (by omega), if_pos (by omega)]
              exact congrArg some (by omega)
            refine ⟨_, rfl, _, rfl, o, _, _, st + j, rfl, rfl, ho4, hx, ?_⟩
            refine ⟨_, c.set (st + j) true, rfl, same_on no' s8, ?_, marks_c M4 (by omega)⟩
            rw [upd_same, bv_set]
          · rintro σ H4 ⟨x6, c, rfl, s8, ho4, M4⟩
            rw [en] at M4
            exact ⟨_, _, c, rfl, s8, ho4, marks_b_yes M4 (pre_iff.mpr hpre)⟩
        · rw [decide_eq_false hpre]
          exact iteF ⟨_, _, c, rfl, s7, ho3, marks_b_no M2 fun z => hpre (pre_iff.mp z)⟩
      · rintro σ H2 ⟨x5, x6, c, rfl, s6, ho2, M2⟩
        exact ⟨_, _, _, _, c, rfl, s6, ho2, marks_a hp (by rw [eL]) M2⟩
    · rintro σ H' ⟨x3, x4, x5, x6, c, rfl, s5, ho, M⟩
      rw [rv_length, R.len] at M
      rw [marks_end M] at ho
      exact ⟨_, rfl, q H' o s5 no' ho⟩
end
end Sc

namespace Sc
open PySem PySem.Spec PyProof.Rows L2
open Rp10 (Bytes)
abbrev sLong : Stmt := top 25
theorem scLong : FnScope ["row", "spellings", "spelling"] ["row", "spellings"] (defScope sLong) := ⟨rfl, rfl, rfl, by decide +kernel, rfl, by decide +kernel, by decide +kernel⟩
def spLong (K : PySem.W.Frag) : Sp := fun vs H Q _ => ∃ (a b : Addr) (r : Bytes) (as : List Addr) (ps : List Bytes), vs = [.ref a, .ref b] ∧ SqL K H a (iv r) ∧ SqL K H b (rv as) ∧ RowsAt H as ps ∧
  ∀ H', Same H H' → Q (.bl (ps.any fun p => longer p r)) H'
abbrev sBegun : Stmt := top 26
theorem scBegun : FnScope ["text", "spellings", "start"] ["text", "spellings"] (defScope sBegun) := ⟨rfl, rfl, rfl, by decide +kernel, rfl, by decide +kernel, by decide +kernel⟩
def spBegun (K : PySem.W.Frag) : Sp := fun vs H Q _ => ∃ (a b : Addr) (t : Bytes) (as : List Addr) (ps : List Bytes), vs = [.ref a, .ref b] ∧ SqL K H a (iv t) ∧ t.length ≤ 320 ∧ SqL K H b (rv as) ∧ RowsAt H as ps ∧
  ∀ H', Same H H' → Q (.int ((t.length - Rp10.tail ps t : Nat) : Int)) H'
abbrev sUns : Stmt := top 27
theorem scUns : FnScope ["text", "spellings", "covered", "place"] ["text", "spellings", "covered"] (defScope sUns) := ⟨rfl, rfl, rfl, by decide +kernel, rfl, by decide +kernel, by decide +kernel⟩
def spUns (K : PySem.W.Frag) : Sp := fun vs H Q _ => ∃ (a b c : Addr) (t : Bytes) (as : List Addr) (ps : List Bytes), vs = [.ref a, .ref b, .ref c] ∧ SqL K H a (iv t) ∧ t.length ≤ 320 ∧ SqL K H b (rv as) ∧ RowsAt H as ps ∧
  SqL K H c (bv (Rp10.covered ps 0 t)) ∧ ∀ H', Same H H' → Q (.int ((Rp10.settled ps t : Nat) : Int)) H'
section
variable {P : Program} {w : World} {K : PySem.W.Frag} {mg : Str → Option Value} {base : Heap}
theorem ok_long {f : Addr} {fd : FuncData} {k : Nat} (F : Fun K "begins_longer" "begins_longer" sLong f fd) (ml : mg "len" = none) :
    FnOk P w K mg base CX0 (k + 1) f fd ["row", "spellings"] (spLong K) := by
  refine F.ok scLong (fun vs H Q E h => ?_) (fun cdv A outer s0 H vs Q E hr h => ?_)
  · obtain ⟨a, b, t, as, ps, rfl, _⟩ := h
    rfl
  · obtain ⟨a, b, r, as, ps, rfl, hR, hB, R, q⟩ := h
    refine ⟨_, pss_cons (ps_for PassesOwn.never rfl (pi_list (pv 1)) (pg_name (i := 2) scLong.nd rfl (.inl rfl))
        (pss_one (ps_if (PW.pt (pw_and (pt_cmpR op_gt (pe_callB call_len_seq (by rfl) ml PySem.boot_len (pa_cons (pv 2) pa_nil)) (pe_callB call_len_seq (by rfl) ml PySem.boot_len (pa_cons (pv 0) pa_nil)) (nomark _))
            (pw_and1 (pt_cmpR (op_eqD hr.units) (pe_slice sl_list (pv 2) po_none (po_some (pe_callB call_len_seq (by rfl) ml PySem.boot_len (pa_cons (pv 0) pa_nil)))) (pv 0) (nomark _)))))
          (pss_one (ps_ret pe_bl)) pss_nil)))
      (pss_one (ps_ret pe_bl)), ?_⟩
    refine ⟨_, rfl, b, rfl, ⟨_, hB⟩, for_list (K := K) (a := b) (xs := rv as)
      (fun i σ H' => ∃ v, σ = [some (.ref a), some (.ref b), v] ∧ Same H H' ∧ ((ps.take i).any fun p => longer p r) = false)
      ⟨none, rfl, Same.refl H, rfl⟩ (fun i σ H' _ ⟨_, _, s5, _⟩ => s5.seq hB) ?_ ?_⟩
    · rintro i y σ H1 hi ⟨v, rfl, s5, hno⟩
      obtain ⟨pa, hpa, rfl⟩ := rv_at hi
      obtain ⟨p, hp, hpH⟩ := R.get hpa
      refine ⟨_, rfl, pa, _, rfl, .inl (SqL.of (s5 _ _ hpH)), _, rfl, a, _, rfl, .inl (s5.seq hR), _, _, rfl, rfl, _, rfl, ?_⟩
      rw [iv_length, iv_length]
      by_cases c1 : (r.length : Int) < (p.length : Int)
      · rw [decide_eq_true c1]
        refine iteT ?_
        refine ⟨_, rfl, _, rfl, a, _, rfl, .inl (s5.seq hR), _, rfl, pa, _, rfl, SqL.of (s5 _ _ hpH), fun sl nsl => ?_⟩
        rw [iv_length]
        have s7 : Same H (upd H1 sl (.lst (cutV (iv p) none (some (r.length : Int))))) := s5.trans (same_upd nsl)
        have hsl : (upd H1 sl (.lst (cutV (iv p) none (some (r.length : Int))))) sl = some (.lst (iv (p.take r.length))) := by
          rw [upd_same, cut_to, iv_take]
        generalize upd H1 sl (.lst (cutV (iv p) none (some (r.length : Int)))) = H3 at s7 hsl
        refine ⟨_, rfl, _, _, dp_of (SqL.of hsl), dp_of (s7.seq hR), dd_shaped _, dd_shaped _, _, rfl, ?_⟩
        rw [eq_lists]
        by_cases c2 : p.take r.length = r
        · rw [decide_eq_true c2]
          refine iteT ?_
          have hl : longer p r = true := longer_iff.mpr ⟨by omega, c2⟩
          have := q H3 s7
          rw [any_found hp hl] at this
          exact this
        · rw [decide_eq_false c2]
          refine iteF ⟨_, rfl, s7, any_more hp hno ?_⟩
          cases e : longer p r with
          | false => rfl
          | true => exact absurd (longer_iff.mp e).2 c2
      · rw [decide_eq_false c1]
        refine iteF (iteF ⟨_, rfl, s5, any_more hp hno ?_⟩)
        cases e : longer p r with
        | false => rfl
        | true => exact absurd (longer_iff.mp e).1 (by omega)
    · rintro σ H' ⟨v, rfl, s5, hno⟩
      rw [rv_length, R.len, List.take_length] at hno
      have := q H' s5
      rw [hno] at this
      exact this
theorem ok_begun {f : Addr} {fd : FuncData} (F : Fun K "first_begun" "first_begun" sBegun f fd) (ml : mg "len" = none) (mr : mg "range" = none)
    (D1 : Df P w K mg base 1 "begins_longer" ["row", "spellings"] (spLong K)) :
    FnOk P w K mg base CX0 2 f fd ["text", "spellings"] (spBegun K) := by
  obtain ⟨f1, fd1, g1, k1, b1, G1⟩ := D1.ex
  refine F.ok scBegun (fun vs H Q E h => ?_) (fun cdv A outer s0 H vs Q E hr h => ?_)
  · obtain ⟨a, b, t, as, ps, rfl, _⟩ := h
    rfl
  · obtain ⟨a, b, t, as, ps, rfl, hT, hl, hB, R, q⟩ := h
    refine ⟨_, pss_cons (ps_for PassesOwn.never rfl (pi_range1 rfl mr (pa_cons (pe_callB call_len_seq (by rfl) ml PySem.boot_len (pa_cons (pv 0) pa_nil)) pa_nil)) (pg_name (i := 2) scBegun.nd rfl (.inl rfl))
        (pss_one (ps_if (pt_val (pe_call G1 hr rfl g1 k1 b1 .nil pass0 (pa_cons (pe_slice sl_list (pv 0) (po_some (pv 2)) po_none) (pa_cons (pv 1) pa_nil))))
          (pss_one (ps_ret (pv 2))) pss_nil)))
      (pss_one (ps_ret (pe_callB call_len_seq (by rfl) ml PySem.boot_len (pa_cons (pv 0) pa_nil)))), ?_⟩
    have eL : (iv t).length = t.length := iv_length t
    refine ⟨_, rfl, a, _, rfl, .inl hT, _, rfl, by omega, by omega, for_range (lo := 0)
      (fun i σ H' => ∃ v, σ = [some (.ref a), some (.ref b), v] ∧ Same H H' ∧ ∀ j, j < i → j < t.length → Rp10.open_ ps (t.drop j) = false)
      ⟨none, rfl, Same.refl H, fun j h => by omega⟩ ?_ ?_⟩
    · rintro i σ H1 hi ⟨v, rfl, s5, hno⟩
      have hit : i < t.length := by omega
      have e0 : ((0 : Int) + (i : Int)) = (i : Int) := by omega
      rw [e0]
      refine ⟨_, rfl, _, rfl, _, rfl, a, _, rfl, s5.seq hT, fun sl nsl => ?_⟩
      have s7 : Same H (upd H1 sl (.lst (cutV (iv t) (some (i : Int)) none))) := s5.trans (same_upd nsl)
      have hsl : (upd H1 sl (.lst (cutV (iv t) (some (i : Int)) none))) sl = some (.lst (iv (t.drop i))) := by
        rw [upd_same, cut_from, iv_drop]
      generalize upd H1 sl (.lst (cutV (iv t) (some (i : Int)) none)) = H3 at s7 hsl
      refine ⟨_, rfl, sl, b, t.drop i, as, ps, rfl, SqL.of hsl, s7.seq hB, R.same s7, fun H4 s4 => ⟨_, rfl, ?_⟩⟩
      rw [← open_drop hit]
      have s8 := s7.trans s4
      cases c : Rp10.open_ ps (t.drop i) with
      | true =>
        refine iteT ⟨_, rfl, ?_⟩
        have := q H4 s8
        rw [tail_found t i hit (fun j hj => hno j hj (by omega)) c, show t.length - (t.length - i) = i by omega] at this
        exact this
      | false =>
        refine iteF ⟨_, rfl, s8, fun j hj hjt => ?_⟩
        by_cases e : j = i
        · subst e
          exact c
        · exact hno j (by omega) hjt
    · rintro σ H1 ⟨v, rfl, s5, hno⟩
      refine ⟨_, rfl, a, _, rfl, .inl (s5.seq hT), ?_⟩
      have := q H1 s5
      rw [tail_none t (fun j hj => hno j (by omega) hj), Nat.sub_zero] at this
      rw [eL]
      exact this
theorem ok_uns {f : Addr} {fd : FuncData} (F : Fun K "first_unsettled" "first_unsettled" sUns f fd) (ml : mg "len" = none) (mr : mg "range" = none)
    (D1 : Df P w K mg base 2 "first_begun" ["text", "spellings"] (spBegun K)) :
    FnOk P w K mg base CX0 3 f fd ["text", "spellings", "covered"] (spUns K) := by
  obtain ⟨f1, fd1, g1, k1, b1, G1⟩ := D1.ex
  refine F.ok scUns (fun vs H Q E h => ?_) (fun cdv A outer s0 H vs Q E hr h => ?_)
  · obtain ⟨a, b, c, t, as, ps, rfl, _⟩ := h
    rfl
  · obtain ⟨a, b, c, t, as, ps, rfl, hT, hl, hB, R, hC, q⟩ := h
    refine ⟨_, pss_cons (ps_for PassesOwn.never rfl (pi_range2 rfl mr (pa_cons (pe_call G1 hr rfl g1 k1 b1 .nil pass0 (pa_cons (pv 0) (pa_cons (pv 1) pa_nil))) (pa_cons (pe_callB call_len_seq (by rfl) ml PySem.boot_len (pa_cons (pv 0) pa_nil)) pa_nil))) (pg_name (i := 3) scUns.nd rfl (.inl rfl))
        (pss_one (ps_if (pt_not (pt_val (pe_ix ix_list (pv 2) (pv 3) (fun _ _ => rfl))))
          (pss_one (ps_ret (pv 3))) pss_nil)))
      (pss_one (ps_ret (pe_callB call_len_seq (by rfl) ml PySem.boot_len (pa_cons (pv 0) pa_nil)))), ?_⟩
    have eL : (iv t).length = t.length := iv_length t
    have htl := tail_le (ps := ps) t
    refine ⟨_, rfl, _, rfl, a, b, t, as, ps, rfl, hT, hl, hB, R, fun H0 s0' => ?_⟩
    refine ⟨_, rfl, a, _, rfl, .inl (s0'.seq hT), _, _, rfl, ⟨by omega, by omega, by omega, by omega⟩, for_range
      (fun i σ H' => ∃ v, σ = [some (.ref a), some (.ref b), some (.ref c), v] ∧ Same H H' ∧ ∀ j, t.length - Rp10.tail ps t ≤ j → j < t.length - Rp10.tail ps t + i → (Rp10.covered ps 0 t)[j]? = some true)
      ⟨none, rfl, s0', fun j h1 h2 => by omega⟩ ?_ ?_⟩
    · rintro i σ H1 hi ⟨v, rfl, s5, hno⟩
      rw [eL] at hi
      have hit : t.length - Rp10.tail ps t + i < t.length := by omega
      have e0 : (((t.length - Rp10.tail ps t : Nat) : Int) + (i : Int)) = ((t.length - Rp10.tail ps t + i : Nat) : Int) := by omega
      rw [e0]
      obtain ⟨k, hk⟩ : ∃ k, (Rp10.covered ps 0 t)[t.length - Rp10.tail ps t + i]? = some k := ⟨_, List.getElem?_eq_getElem (by rw [covered_length]; exact hit)⟩
      refine ⟨_, rfl, _, rfl, c, _, _, _, rfl, rfl, s5.seq hC, atI_nat (bv_get hk), _, rfl, ?_⟩
      cases k with
      | false =>
        refine iteT ⟨_, rfl, ?_⟩
        have := q H1 s5
        rw [settled_found (by omega) hit (fun j h1 h2 => hno j h1 h2) hk] at this
        exact this
      | true =>
        refine iteF ⟨_, rfl, s5, fun j h1 h2 => ?_⟩
        by_cases e : j = t.length - Rp10.tail ps t + i
        · subst e
          exact hk
        · exact hno j h1 (by omega)
    · rintro σ H1 ⟨v, rfl, s5, hno⟩
      refine ⟨_, rfl, a, _, rfl, .inl (s5.seq hT), ?_⟩
      have := q H1 s5
      rw [settled_none (fun j h1 h2 => hno j h1 (by rw [eL]; omega))] at this
      rw [eL]
      exact this
end
end Sc

namespace Sc
open PySem PySem.Spec PyProof.Rows L2
open Rp10 (Bytes)
abbrev sShown : Stmt := top 28
theorem scShown : FnScope ["text", "covered", "start", "stop", "shown", "place"] ["text", "covered", "start", "stop"] (defScope sShown) := ⟨rfl, rfl, rfl, by decide +kernel, rfl, by decide +kernel, by decide +kernel⟩
def spShown (K : PySem.W.Frag) : Sp := fun vs H Q _ => ∃ (a c : Addr) (t : Bytes) (cs : List Bool) (n1 n2 : Nat), vs = [.ref a, .ref c, .int (n1 : Int), .int (n2 : Int)] ∧ SqL K H a (iv t) ∧ t.length ≤ 320 ∧ SqL K H c (bv cs) ∧ cs.length = t.length ∧ n1 ≤ t.length ∧ n2 ≤ t.length ∧
  ∀ H' p, Same H H' → H p = none → H' p = some (.lst (iv (between t cs n1 n2))) → Q (.ref p) H'
section
variable {P : Program} {w : World} {K : PySem.W.Frag} {mg : Str → Option Value} {base : Heap}
theorem ok_shown {f : Addr} {fd : FuncData} {k : Nat} (F : Fun K "shown_between" "shown_between" sShown f fd) (mr : mg "range" = none) (mS : ∃ t, mg "STAR" = some (.int 42 t)) :
    FnOk P w K mg base CX0 (k + 1) f fd ["text", "covered", "start", "stop"] (spShown K) := by
  obtain ⟨tS, mS⟩ := mS
  refine F.ok scShown (fun vs H Q E h => ?_) (fun cdv A outer s0 H vs Q E hr h => ?_)
  · obtain ⟨a, c, t, cs, n1, n2, rfl, _⟩ := h
    rfl
  · obtain ⟨a, c, t, cs, n1, n2, rfl, hT, hl, hC, hcl, h1, h2, q⟩ := h
    refine ⟨_, pss_cons (ps_set (i := 4) scShown.nd rfl (.inl rfl) (pe_lst pa_nil))
      (pss_cons (ps_for PassesOwn.never rfl (pi_range2 rfl mr (pa_cons (pv 2) (pa_cons (pv 3) pa_nil))) (pg_name (i := 5) scShown.nd rfl (.inl rfl))
        (pss_one (ps_if (pt_not (pt_val (pe_ix ix_list (pv 1) (pv 5) (fun _ _ => rfl))))
          (pss_one (ps_expr (pe_bm PySem.F.plainAttrs_list PySem.F.slot_list_append PySem.F.type_list_append mt_append (pv 4) (pa_cons (pe_ix ix_list (pv 0) (pv 5) (fun _ _ => rfl)) pa_nil))))
          (pss_one (ps_if (PW.pt (pw_or (pt_cmpR op_eq (pv 5) pe_int (nomark _)) (pw_or1 (pt_not (pt_val (pe_ix ix_list (pv 1) (pe_op op_sub (pv 5) pe_int) (fun _ _ => rfl)))))))
            (pss_one (ps_expr (pe_bm PySem.F.plainAttrs_list PySem.F.slot_list_extend PySem.F.type_list_extend mt_extend (pv 4)
              (pa_cons (pe_lst (pa_cons (pe_glob (v := .int 42) rfl mS ⟨_, rfl⟩) (pa_cons (pe_glob (v := .int 42) rfl mS ⟨_, rfl⟩) (pa_cons (pe_glob (v := .int 42) rfl mS ⟨_, rfl⟩) pa_nil)))) pa_nil))))
            pss_nil)))))
      (pss_one (ps_ret (pv 4)))), ?_⟩
    refine ⟨Nat.zero_le _, fun o no => ?_⟩
    have s1 : Same H (upd H o (.lst [])) := same_upd no
    refine ⟨_, rfl, _, rfl, _, _, rfl, ⟨by omega, by omega, by omega, by omega⟩, for_range
      (fun i σ H' => ∃ v out, σ = [some (.ref a), some (.ref c), some (.int (n1 : Int)), some (.int (n2 : Int)), some (.ref o), v] ∧ Same H H' ∧ H' o = some (.lst (iv out)) ∧ out ++ between t cs (n1 + i) n2 = between t cs n1 n2 ∧ out.length ≤ 3 * i)
      ⟨none, [], rfl, s1, upd_same, rfl, Nat.le_refl _⟩ ?_ ?_⟩
    · rintro i σ H1 hi ⟨v, out, rfl, s5, ho, he, hlo⟩
      have hlt : n1 + i < n2 := by omega
      have e0 : ((n1 : Int) + (i : Int)) = ((n1 + i : Nat) : Int) := by omega
      rw [e0]
      obtain ⟨x, hx⟩ : ∃ x, t[n1 + i]? = some x := ⟨_, List.getElem?_eq_getElem (by omega)⟩
      obtain ⟨k, hk⟩ : ∃ k, cs[n1 + i]? = some k := ⟨_, List.getElem?_eq_getElem (by omega)⟩
      have hm := between_more hlt hx hk
      refine ⟨_, rfl, _, rfl, c, _, _, _, rfl, rfl, s5.seq hC, atI_nat (bv_get hk), _, rfl, ?_⟩
      cases k with
      | false =>
        rw [if_neg Bool.false_ne_true] at hm
        refine iteT ⟨_, rfl, .inl ⟨rfl, _, SqL.of ho⟩, _, rfl, _, rfl, a, _, _, _, rfl, rfl, s5.seq hT, atI_nat (iv_get hx), o, _, _, rfl, rfl, ho, ?_, ?_⟩
        · rw [iv_length]
          exact sizes_lt (by omega)
        · refine ⟨_, out ++ [x], rfl, same_on no s5, ?_, ?_, ?_⟩
          · rw [upd_same, iv_snoc]
          · rw [List.append_assoc, show n1 + (i + 1) = n1 + i + 1 by omega, ← hm, he]
          · rw [List.length_append, List.length_cons, List.length_nil]
            omega
      | true =>
        rw [if_pos rfl] at hm
        refine iteF ?_
        refine ⟨_, rfl, rfl, _, rfl, ?_⟩
        -- the stars
        have stars : was cs (n1 + i) = false → tDrop (tBM K "list" rExtend (tVar 4) (tCons (tLst (tCons (tC (.int 42)) (tCons (tC (.int 42)) (tCons (tC (.int 42)) tNil)))) tNil))
            { nx := fun σ H' => ∃ v out, σ = [some (.ref a), some (.ref c), some (.int (n1 : Int)), some (.int (n2 : Int)), some (.ref o), v] ∧ Same H H' ∧ H' o = some (.lst (iv out)) ∧ out ++ between t cs (n1 + (i + 1)) n2 = between t cs n1 n2 ∧ out.length ≤ 3 * (i + 1), rt := Q }
            [some (V.ref a), some (.ref c), some (.int (n1 : Int)), some (.int (n2 : Int)), some (.ref o), some (.int ((n1 + i : Nat) : Int))] H1 := fun hw => by
          rw [hw, if_neg Bool.false_ne_true] at hm
          refine ⟨_, rfl, .inl ⟨rfl, _, SqL.of ho⟩, by show 3 ≤ sizeLine; decide, fun l nl => ?_⟩
          refine ⟨o, l, _, _, rfl, rfl, keep_at ho nl, upd_same, ?_, ?_⟩
          · rw [iv_length]
            exact sizes (by show out.length + 3 ≤ 16777216; omega)
          · refine ⟨_, out ++ [42, 42, 42], rfl, same_on no (s5.trans (same_upd nl)), ?_, ?_, ?_⟩
            · rw [upd_same, iv_append]
              rfl
            · rw [List.append_assoc, show n1 + (i + 1) = n1 + i + 1 by omega, ← hm, he]
            · rw [List.length_append]
              show out.length + 3 ≤ _
              omega
        by_cases z : V.int ((n1 + i : Nat) : Int) = V.int 0
        · rw [decide_eq_true z]
          refine iteT (iteT ?_)
          have z0 : n1 + i = 0 := by
            injection z with z
            omega
          refine stars ?_
          unfold was
          rw [z0]
          rfl
        · rw [decide_eq_false z]
          have z0 : n1 + i ≠ 0 := fun e => z (by rw [e]; rfl)
          refine iteF ?_
          obtain ⟨k', hk'⟩ : ∃ k, cs[n1 + i - 1]? = some k := ⟨_, List.getElem?_eq_getElem (by omega)⟩
          have hw : was cs (n1 + i) = k' := by
            unfold was
            rw [decide_eq_true (show 0 < n1 + i by omega), Bool.true_and, List.getD_eq_getElem?_getD, hk']
            rfl
          refine ⟨_, rfl, _, rfl, _, _, rfl, rfl, c, _, _, .bl k', rfl, rfl, s5.seq hC, ?_, _, rfl, ?_⟩
          · rw [show (((n1 + i : Nat) : Int) - 1) = ((n1 + i - 1 : Nat) : Int) by omega]
            exact atI_nat (bv_get hk')
          cases k' with
          | false => exact iteT (stars hw)
          | true =>
            rw [hw, if_pos rfl, List.nil_append] at hm
            refine iteF ⟨_, out, rfl, s5, ho, ?_, by omega⟩
            rw [show n1 + (i + 1) = n1 + i + 1 by omega, ← hm]
            exact he
    · rintro σ H' ⟨v, out, rfl, s5, ho, he, hlo⟩
      rw [between_end (a := n1 + _) (by omega), List.append_nil] at he
      rw [he] at ho
      exact ⟨_, rfl, q H' o s5 no ho⟩
end
end Sc

namespace Sc
open PySem PySem.Spec PyProof.Rows L2
/-! how often True stands in a list of truth values -/
def rCntB (K : PySem.W.Frag) : V → List V → Hp → VK → Prop := fun x args H Q => ∃ (p : Addr) (c : List Bool), x = .ref p ∧ args = [.bl true] ∧ SqL K H p (bv c) ∧ Q (.int ((c.filter fun b => b).length : Nat)) H
theorem bv_flat (c : List Bool) : (bv c).all flatV = true := by
  rw [List.all_eq_true]
  intro x hx
  obtain ⟨b, _, rfl⟩ := List.mem_map.mp (show x ∈ c.map _ from hx)
  rfl
theorem cnt_true : ∀ {c : List Bool} {us : List Value}, Vals (bv c) us → us.countP (eqU (.bl true)) = (c.filter fun b => b).length
  | [], us, h => by
    cases h
    rfl
  | b :: c, us, h => by
    cases h with
    | cons r t =>
      rename_i u us
      have e : u = .bool b := r
      subst e
      rw [List.countP_cons, cnt_true (c := c) t]
      cases b <;> rfl
theorem mt_cntB {X : Cx} : MtR X "list.count" (rCntB X.K) := by
  intro pins s σ H x args v us Q inv rx ra hyp
  obtain ⟨p, c, ex, ea, hc, fin⟩ := hyp
  subst ex
  subst ea
  cases rx
  obtain ⟨u, eu, ru⟩ := ra.one
  subst eu
  have eb : u = .bool true := ru
  subst eb
  obtain ⟨its, vals, pl, small⟩ := inv.list hc
  obtain ⟨ob, n, get, kind, nodict, seq⟩ := pl
  have flat := bv_flat c
  obtain ⟨k0, k1, k2, k3⟩ := ob
  dsimp only at kind seq
  subst kind
  subst seq
  refine call_meets PySem.F.slot_list_count ⟨_, get, rfl⟩ PySem.F.entry_list_count (PySem.F.args_list_count_2 _ _) (SeqAt.list_countAt p its.toArray n k1 k3 (.bool true) (eqU (.bl true))) ?_
  refine ⟨get, fun y hy => mem_eqAt (x := .bl true) rfl rfl vals flat y (by simpa using hy), .int ((c.filter fun b => b).length : Nat), H, inv.tok _, ⟨s.toks, ?_⟩, fin⟩
  have cnt : its.toArray.toList.countP (eqU (.bl true)) = (c.filter fun b => b).length := cnt_true vals
  exact congrArg (fun (m : Nat) => Value.int (m : Int) s.toks) cnt
end Sc

namespace Sc
open PySem PySem.Spec PyProof.Rows L2
open Rp10 (Bytes)
/-! the house in the heap -/
def hF (n : Nat) (sp tx : Addr) (st : Nat) : List (Str × V) := [("secrets", .int (n : Int)), ("spellings", .ref sp), ("text", .ref tx), ("settled", .int (st : Int))]
theorem lk_here {k : Str} {v : V} {r : List (Str × V)} : List.lookup k ((k, v) :: r) = some v := by
  have e : (k == k) = true := beq_self_eq_true k
  simp only [List.lookup, e]
theorem lk_past {k g : Str} {v : V} {r : List (Str × V)} (h : (k == g) = false) : List.lookup k ((g, v) :: r) = List.lookup k r := by
  simp only [List.lookup, h]
theorem lk_none {k : Str} (h1 : (k == ("secrets" : Str)) = false) (h2 : (k == ("spellings" : Str)) = false) (h3 : (k == ("text" : Str)) = false) (h4 : (k == ("settled" : Str)) = false) {n : Nat} {sp tx : Addr} {st : Nat} : (hF n sp tx st).lookup k = none :=
  (lk_past h1).trans ((lk_past h2).trans ((lk_past h3).trans ((lk_past h4).trans rfl)))
section
variable {n : Nat} {sp tx : Addr} {st : Nat}
theorem hF_secrets : (hF n sp tx st).lookup ("secrets" : Str) = some (.int (n : Int)) := lk_here
theorem hF_spellings : (hF n sp tx st).lookup ("spellings" : Str) = some (.ref sp) := (lk_past (by decide +kernel)).trans lk_here
theorem hF_text : (hF n sp tx st).lookup ("text" : Str) = some (.ref tx) := (lk_past (by decide +kernel)).trans ((lk_past (by decide +kernel)).trans lk_here)
theorem hF_settled : (hF n sp tx st).lookup ("settled" : Str) = some (.int (st : Int)) := (lk_past (by decide +kernel)).trans ((lk_past (by decide +kernel)).trans ((lk_past (by decide +kernel)).trans lk_here))
end
theorem ne_12 : ¬ ("secrets" : Str) = "spellings" := by decide +kernel
theorem ne_13 : ¬ ("secrets" : Str) = "text" := by decide +kernel
theorem ne_14 : ¬ ("secrets" : Str) = "settled" := by decide +kernel
theorem ne_23 : ¬ ("spellings" : Str) = "text" := by decide +kernel
theorem ne_24 : ¬ ("spellings" : Str) = "settled" := by decide +kernel
theorem ne_34 : ¬ ("text" : Str) = "settled" := by decide +kernel
def freshText (tx : Addr) (fs : List (Str × V)) : List (Str × V) := putF "settled" (.int 0) (putF "text" (.ref tx) fs)
def freshAll (sp tx : Addr) (fs : List (Str × V)) : List (Str × V) := freshText tx (putF "spellings" (.ref sp) (putF "secrets" (.int 0) fs))
theorem fresh_nil {sp tx : Addr} : freshAll sp tx [] = hF 0 sp tx 0 := by
  unfold freshAll freshText hF
  simp only [putF, ne_12, ne_13, ne_14, ne_23, ne_24, ne_34, if_false]
  rfl
theorem fresh_full {sp tx sp0 tx0 : Addr} {n st : Nat} : freshAll sp tx (hF n sp0 tx0 st) = hF 0 sp tx 0 := by
  unfold freshAll freshText hF
  simp only [putF, ne_12, ne_13, ne_14, ne_23, ne_24, ne_34, if_false, if_true]
  rfl
theorem fresh_text {sp tx tx0 : Addr} {n st : Nat} : freshText tx (hF n sp tx0 st) = hF n sp tx 0 := by
  unfold freshText hF
  simp only [putF, ne_12, ne_13, ne_14, ne_23, ne_24, ne_34, if_false, if_true]
  rfl
theorem put_settled {sp tx : Addr} {n st st' : Nat} : putF "settled" (.int (st' : Int)) (hF n sp tx st) = hF n sp tx st' := by
  unfold hF
  simp only [putF, ne_14, ne_24, ne_34, if_false, if_true]
theorem put_secrets {sp tx : Addr} {n n' st : Nat} : putF "secrets" (.int (n' : Int)) (hF n sp tx st) = hF n' sp tx st := by
  unfold hF
  simp only [putF, if_true]
structure HouseAt (C : Addr) (H : Hp) (p sp tx : Addr) (as : List Addr) (h : Rp10.House) : Prop where
  obj : ∃ dx, H p = some (.ins C dx (hF h.secrets sp tx h.sent))
  hsp : H sp = some (.lst (rv as))
  rows : RowsAt H as h.ps
  htx : H tx = some (.lst (iv h.text))
  n1 : sp ≠ tx
  n2 : sp ∉ as
  n3 : tx ∉ as
/-- nothing that was there and isn't the house's own has changed, or is the house's own now -/
def Fr (H H' : Hp) (L L' : List Addr) : Prop := ∀ b o, H b = some o → b ∉ L → H' b = some o ∧ b ∉ L'
theorem Fr.of {H H' : Hp} {L L' : List Addr} (k : ∀ b o, H b = some o → b ∉ L → H' b = some o) (n : ∀ b ∈ L', b ∈ L ∨ H b = none) : Fr H H' L L' := fun b o e hb => by
  refine ⟨k b o e hb, fun h => ?_⟩
  rcases n b h with h | h
  · exact hb h
  · rw [e] at h
    cases h
/-- what a call of the house does: the state that is due, its answer in a list -/
def Done (C : Addr) (H : Hp) (p sp tx : Addr) (as : List Addr) (r : Rp10.House × Rp10.Ans) (Q : VK) : Prop :=
  ∀ (H' : Hp) (sp' tx' : Addr) (as' : List Addr) (q : Addr), HouseAt C H' p sp' tx' as' r.1 → Fr H H' (p :: sp :: tx :: as) (p :: sp' :: tx' :: as') →
    H q = none → H' q = some (.lst ((Rp10Neutral.out r.2).map V.int)) → Q (.ref q) H'
theorem out_iv (v : Int) (l : List Nat) : (Rp10Neutral.out ⟨v, l⟩).map V.int = .int v :: iv l := by
  unfold Rp10Neutral.out iv
  rw [List.map_cons, List.map_map]
  rfl
theorem HouseAt.same {C : Addr} {H H' : Hp} {p sp tx : Addr} {as : List Addr} {h : Rp10.House} (a : HouseAt C H p sp tx as h) (s : Same H H') : HouseAt C H' p sp tx as h := by
  obtain ⟨dx, e⟩ := a.obj
  exact ⟨⟨dx, s _ _ e⟩, s _ _ a.hsp, a.rows.same s, s _ _ a.htx, a.n1, a.n2, a.n3⟩
theorem HouseAt.p_sp {C : Addr} {H : Hp} {p sp tx : Addr} {as : List Addr} {h : Rp10.House} (a : HouseAt C H p sp tx as h) : p ≠ sp := by
  obtain ⟨dx, e⟩ := a.obj
  exact ne_of e a.hsp (by intro z; cases z)
theorem HouseAt.p_tx {C : Addr} {H : Hp} {p sp tx : Addr} {as : List Addr} {h : Rp10.House} (a : HouseAt C H p sp tx as h) : p ≠ tx := by
  obtain ⟨dx, e⟩ := a.obj
  exact ne_of e a.htx (by intro z; cases z)
theorem HouseAt.p_as {C : Addr} {H : Hp} {p sp tx : Addr} {as : List Addr} {h : Rp10.House} (a : HouseAt C H p sp tx as h) : p ∉ as := fun hm => by
  obtain ⟨dx, e⟩ := a.obj
  obtain ⟨r, _, e2⟩ := a.rows.mem hm
  rw [e] at e2
  cases e2
/-- the house stays as it is, and so does all else: the answer is a new list -/
theorem Done.stay {C : Addr} {H H' : Hp} {p sp tx : Addr} {as : List Addr} {h : Rp10.House} {r : Rp10.House × Rp10.Ans} {Q : VK} {q : Addr} (d : Done C H p sp tx as r Q) (a : HouseAt C H p sp tx as h) (er : r.1 = h) (s : Same H H') (hn : H q = none)
    (hq : H' q = some (.lst ((Rp10Neutral.out r.2).map V.int))) : Q (.ref q) H' :=
  d H' sp tx as q (by rw [er]; exact a.same s) (fun b o e hb => ⟨s b o e, hb⟩) hn hq
/-- what was there is there -/
def Live (H H' : Hp) : Prop := ∀ b o, H b = some o → ∃ o', H' b = some o'
theorem Live.of {H H' : Hp} (s : Same H H') : Live H H' := fun b o e => ⟨o, s b o e⟩
theorem Live.put {H : Hp} {a : Addr} {u : HO} : Live H (upd H a u) := fun b o e => by
  by_cases c : b = a
  · subst c
    exact ⟨u, upd_same⟩
  · exact ⟨o, by rw [upd_ne c]; exact e⟩
theorem Live.trans {H H1 H2 : Hp} (a : Live H H1) (b : Live H1 H2) : Live H H2 := fun x o e => by
  obtain ⟨o1, e1⟩ := a x o e
  exact b x o1 e1
theorem Live.free {H H' : Hp} (a : Live H H') {r : Addr} (n : H' r = none) : H r = none := by
  cases e : H r with
  | none => rfl
  | some o =>
    obtain ⟨o', e'⟩ := a r o e
    rw [n] at e'
    cases e'
/-- what the top has written of the class -/
structure Txt (K : PySem.W.Frag) (C : Addr) : Prop where
  cl : Cls K C
  nS : NoAttr K C "secrets"
  nP : NoAttr K C "spellings"
  nT : NoAttr K C "text"
  nE : NoAttr K C "settled"
structure Mt (P : Program) (w : World) (K : PySem.W.Frag) (mg : Str → Option Value) (base : Heap) (C : Addr) (k : Nat) (x : Str) (ps : List Str) (sp : Sp) : Prop where
  ex : ∃ (f : Addr) (fd : FuncData), Meth K C x f ∧ Binds K fd ps [] ∧ FnOk P w K mg base CX0 k f fd ps sp
end Sc

namespace Sc
open PySem PySem.Spec PyProof.Rows L2
open Rp10 (Bytes)
abbrev sHouse : Stmt := top 29
abbrev sInit : Stmt := inClass sHouse 0
abbrev sBegins : Stmt := inClass sHouse 1
abbrev sBText : Stmt := inClass sHouse 2
theorem scInit : FnScope ["self"] ["self"] (defScope sInit) := ⟨rfl, rfl, rfl, by decide +kernel, rfl, by decide +kernel, by decide +kernel⟩
theorem scBegins : FnScope ["self"] ["self"] (defScope sBegins) := ⟨rfl, rfl, rfl, by decide +kernel, rfl, by decide +kernel, by decide +kernel⟩
theorem scBText : FnScope ["self"] ["self"] (defScope sBText) := ⟨rfl, rfl, rfl, by decide +kernel, rfl, by decide +kernel, by decide +kernel⟩
def spBText (C : Addr) : Sp := fun vs H Q _ => ∃ (p dx : Addr) (fs : List (Str × V)), vs = [.ref p] ∧ H p = some (.ins C dx fs) ∧ fs.length < 100 ∧
  ∀ (H' : Hp) (tx : Addr), H tx = none → H' tx = some (.lst []) → H' p = some (.ins C dx (freshText tx fs)) → (∀ b o, H b = some o → b ≠ p → H' b = some o) → Q .non H'
/-- ahead of begins: an instance without attributes, or a house -/
def Bare (fs : List (Str × V)) : Prop := fs = [] ∨ ∃ n sp tx st, fs = hF n sp tx st
def spBegins (C : Addr) : Sp := fun vs H Q _ => ∃ (p dx : Addr) (fs : List (Str × V)), vs = [.ref p] ∧ H p = some (.ins C dx fs) ∧ Bare fs ∧
  ∀ (H' : Hp) (sp tx q : Addr), HouseAt C H' p sp tx [] Rp10.init → (∀ b o, H b = some o → b ≠ p → H' b = some o) → H sp = none → H tx = none → H q = none → H' q = some (.lst [.int 0]) → Q (.ref q) H'
def spInit (C : Addr) : Sp := fun vs H Q _ => ∃ (p dx : Addr), vs = [.ref p] ∧ H p = some (.ins C dx []) ∧
  ∀ (H' : Hp) (sp tx : Addr), HouseAt C H' p sp tx [] Rp10.init → (∀ b o, H b = some o → b ≠ p → H' b = some o) → H sp = none → H tx = none → Q .non H'
theorem putF_length (f : Str) (v : V) : ∀ fs : List (Str × V), (putF f v fs).length ≤ fs.length + 1
  | [] => Nat.le_refl _
  | (g, x) :: r => by
    unfold putF
    split
    · exact Nat.le_succ _
    · have := putF_length f v r
      simp only [List.length_cons]
      omega
section
variable {P : Program} {w : World} {K : PySem.W.Frag} {mg : Str → Option Value} {base : Heap} {C : Addr}
theorem ok_btext {f : Addr} {fd : FuncData} {k : Nat} (F : Fun K "begin_text" "House.begin_text" sBText f fd) (T : Txt K C) :
    FnOk P w K mg base CX0 (k + 1) f fd ["self"] (spBText C) := by
  refine F.ok scBText (fun vs H Q E h => ?_) (fun cdv A outer s0 H vs Q E hr h => ?_)
  · obtain ⟨p, dx, fs, rfl, _⟩ := h
    rfl
  · obtain ⟨p, dx, fs, rfl, hp, hl, q⟩ := h
    refine ⟨_, pss_cons (ps_fld (pv 0) (pe_lst pa_nil) rfl) (pss_one (ps_fld (pv 0) pe_int rfl)), ?_⟩
    refine ⟨Nat.zero_le _, fun tx nt => ?_⟩
    have npt : p ≠ tx := ne_of_none hp nt
    refine ⟨_, rfl, p, C, dx, fs, rfl, keep_at hp nt, T.cl, T.nT, by omega, ?_⟩
    have := putF_length "text" (.ref tx) fs
    refine ⟨_, rfl, p, C, dx, _, rfl, upd_same, T.cl, T.nE, by omega, ?_⟩
    refine q _ tx nt ?_ upd_same fun b o e hb => ?_
    · rw [upd_ne npt.symm, upd_ne npt.symm, upd_same]
    · rw [upd_ne hb, upd_ne hb]
      exact keep_at e nt
theorem ok_begins {f : Addr} {fd : FuncData} (F : Fun K "begins" "House.begins" sBegins f fd) (T : Txt K C) (M1 : Mt P w K mg base C 1 "begin_text" ["self"] (spBText C)) :
    FnOk P w K mg base CX0 2 f fd ["self"] (spBegins C) := by
  obtain ⟨f1, fd1, m1, b1, G1⟩ := M1.ex
  refine F.ok scBegins (fun vs H Q E h => ?_) (fun cdv A outer s0 H vs Q E hr h => ?_)
  · obtain ⟨p, dx, fs, rfl, _⟩ := h
    rfl
  · obtain ⟨p, dx, fs, rfl, hp, hB, q⟩ := h
    refine ⟨_, pss_cons (ps_fld (pv 0) pe_int rfl) (pss_cons (ps_fld (pv 0) (pe_lst pa_nil) rfl)
      (pss_cons (ps_expr (pe_meth0 (pv 0) T.cl m1 G1 hr b1 .nil pass0)) (pss_one (ps_ret (pe_lst (pa_cons pe_int pa_nil)))))), ?_⟩
    have hfl : fs.length ≤ 4 := by
      rcases hB with rfl | ⟨n, sp, tx, st, rfl⟩
      · exact Nat.zero_le _
      · exact Nat.le_refl _
    have l1 := putF_length "secrets" (.int 0) fs
    refine ⟨_, rfl, p, C, dx, fs, rfl, hp, T.cl, T.nS, by omega, ?_⟩
    refine ⟨Nat.zero_le _, fun sp ns => ?_⟩
    have nps : p ≠ sp := fun e => by
      subst e
      rw [upd_same] at ns
      cases ns
    have ns' : H sp = none := by
      rw [upd_ne nps.symm] at ns
      exact ns
    refine ⟨_, rfl, p, C, dx, _, rfl, keep_at upd_same ns, T.cl, T.nP, by omega, ?_⟩
    have l2 := putF_length "spellings" (.ref sp) (putF "secrets" (.int 0) fs)
    generalize hH1 : upd (upd (upd H p (.ins C dx (putF "secrets" (.int 0) fs))) sp (.lst [])) p (.ins C dx (putF "spellings" (.ref sp) (putF "secrets" (.int 0) fs))) = H1
    have e1 : H1 p = some (.ins C dx (putF "spellings" (.ref sp) (putF "secrets" (.int 0) fs))) := by
      rw [← hH1]
      exact upd_same
    have e2 : H1 sp = some (.lst []) := by
      rw [← hH1, upd_ne nps.symm, upd_same]
    have k1 : ∀ b o, H b = some o → b ≠ p → H1 b = some o := fun b o e hb => by
      rw [← hH1, upd_ne hb, upd_ne (ne_of_none e ns'), upd_ne hb]
      exact e
    have lkb : (putF "spellings" (.ref sp) (putF "secrets" (.int 0) fs)).lookup ("begin_text" : Str) = none := by
      rw [lookup_putF, if_neg (by decide +kernel), lookup_putF, if_neg (by decide +kernel)]
      rcases hB with rfl | ⟨n, sp, tx, st, rfl⟩
      · rfl
      · exact lk_none (by decide +kernel) (by decide +kernel) (by decide +kernel) (by decide +kernel)
    refine ⟨_, rfl, p, dx, _, rfl, e1, lkb, p, dx, _, rfl, e1, by omega, fun H2 tx nt ht hp2 k2 => ?_⟩
    have nt' : H tx = none := by
      cases e : H tx with
      | none => rfl
      | some o =>
        have ntp : tx ≠ p := fun z => by
          subst z
          rw [nt] at e1
          cases e1
        rw [k1 tx o e ntp] at nt
        cases nt
    refine ⟨by show 1 ≤ sizeLine; decide, fun r nr => ?_⟩
    have hfr : freshText tx (putF "spellings" (.ref sp) (putF "secrets" (.int 0) fs)) = hF 0 sp tx 0 := by
      rcases hB with rfl | ⟨n, sp0, tx0, st, rfl⟩
      · exact fresh_nil
      · exact fresh_full
    have nst : sp ≠ tx := ne_of_none e2 nt
    refine q _ sp tx r ⟨⟨dx, ?_⟩, ?_, RowsAt.nil, ?_, nst, fun h => (by cases h), fun h => (by cases h)⟩ (fun b o e hb => ?_) ns' nt' (Live.free (fun b o e => ?_) nr) upd_same
    · rw [hfr] at hp2
      exact keep_at hp2 nr
    · exact keep_at (k2 _ _ e2 nps.symm) nr
    · exact keep_at ht nr
    · exact keep_at (k2 b o (k1 b o e hb) hb) nr
    · by_cases hb : b = p
      · subst hb
        exact ⟨_, hp2⟩
      · exact ⟨_, k2 b o (k1 b o e hb) hb⟩
theorem ok_init {f : Addr} {fd : FuncData} (F : Fun K "__init__" "House.__init__" sInit f fd) (T : Txt K C) (M1 : Mt P w K mg base C 2 "begins" ["self"] (spBegins C)) :
    FnOk P w K mg base CX0 3 f fd ["self"] (spInit C) := by
  obtain ⟨f1, fd1, m1, b1, G1⟩ := M1.ex
  refine F.ok scInit (fun vs H Q E h => ?_) (fun cdv A outer s0 H vs Q E hr h => ?_)
  · obtain ⟨p, dx, rfl, _⟩ := h
    rfl
  · obtain ⟨p, dx, rfl, hp, q⟩ := h
    refine ⟨_, pss_one (ps_expr (pe_meth0 (pv 0) T.cl m1 G1 hr b1 .nil pass0)), ?_⟩
    exact ⟨_, rfl, p, dx, _, rfl, hp, rfl, p, dx, [], rfl, hp, .inl rfl, fun H' sp tx r hA k n1 n2 _ _ => q H' sp tx hA k n1 n2⟩
end
end Sc

namespace Sc
open PySem PySem.Spec PyProof.Rows L2
open Rp10 (Bytes)
abbrev sSecret : Stmt := inClass sHouse 3
theorem scSecret : FnScope ["self", "which", "row", "spellings"] ["self", "which", "row"] (defScope sSecret) := ⟨rfl, rfl, rfl, by decide +kernel, rfl, by decide +kernel, by decide +kernel⟩
def spSecret (K : PySem.W.Frag) (C : Addr) : Sp := fun vs H Q _ => ∃ (p a sp tx : Addr) (as : List Addr) (h : Rp10.House) (m : Nat) (s : Bytes), vs = [.ref p, .int (m : Int), .ref a] ∧ HouseAt C H p sp tx as h ∧ Good h ∧ SqL K H a (iv s) ∧ (∀ b ∈ s, b ≤ 255) ∧ s.length ≤ 20 ∧
  Done C H p sp tx as (Rp10.step h (.secret m s)) Q
/-- a refusal, or any number alone -/
theorem out_ok (v : Int) : (Rp10Neutral.out (Rp10.ok v)).map V.int = [.int v] := rfl
section
variable {P : Program} {w : World} {K : PySem.W.Frag} {mg : Str → Option Value} {base : Heap} {C : Addr}
theorem ok_secret {f : Addr} {fd : FuncData} (F : Fun K "secret" "House.secret" sSecret f fd) (T : Txt K C) (ml : mg "len" = none) (mM : ∃ t, mg "MOST_SECRETS" = some (.int 5 t))
    (D1 : Df P w K mg base 2 "may_be_spelled" ["which", "row"] (spMay K)) (D2 : Df P w K mg base 3 "spellings_of" ["which", "row"] (spSpell K)) :
    FnOk P w K mg base CX0 4 f fd ["self", "which", "row"] (spSecret K C) := by
  obtain ⟨tM, mM⟩ := mM
  obtain ⟨f1, fd1, g1, k1, b1, G1⟩ := D1.ex
  obtain ⟨f2, fd2, g2, k2, b2, G2⟩ := D2.ex
  refine F.ok scSecret (fun vs H Q E h => ?_) (fun cdv A outer s0 H vs Q E hr h => ?_)
  · obtain ⟨p, a, sp, tx, as, h, m, s, rfl, _⟩ := h
    rfl
  · obtain ⟨p, a, sp, tx, as, h, m, s, rfl, hA, hG, hS, hb, hl, q⟩ := h
    have hr1 := hr.mono (show 2 ≤ 3 by decide)
    refine ⟨_, pss_cons (ps_if (pt_not (pt_val (pe_call G1 hr1 rfl g1 k1 b1 .nil pass0 (pa_cons (pv 1) (pa_cons (pv 2) pa_nil)))))
        (pss_one (ps_ret (pe_lst (pa_cons (pe_un un_neg pe_int) pa_nil)))) pss_nil)
      (pss_cons (ps_if (pt_cmpR op_gt (pe_callB call_len_seq (by rfl) ml PySem.boot_len (pa_cons (pe_fld (pv 0) rfl) pa_nil)) pe_int (nomark _))
        (pss_one (ps_ret (pe_lst (pa_cons (pe_un un_neg pe_int) pa_nil)))) pss_nil)
      (pss_cons (ps_if (pt_cmpR op_eq (pe_fld (pv 0) rfl) (pe_glob (v := .int 5) rfl mM ⟨_, rfl⟩) (nomark _))
        (pss_one (ps_ret (pe_lst (pa_cons (pe_un un_neg pe_int) pa_nil)))) pss_nil)
      (pss_cons (ps_set (i := 3) scSecret.nd rfl (.inl rfl) (pe_call G2 hr rfl g2 k2 b2 .nil pass0 (pa_cons (pv 1) (pa_cons (pv 2) pa_nil))))
      (pss_cons (ps_fldaug (pv 0) pe_int in_add)
      (pss_cons (ps_expr (pe_bm PySem.F.plainAttrs_list PySem.F.slot_list_extend PySem.F.type_list_extend mt_extend (pe_fld (pv 0) rfl) (pa_cons (pv 3) pa_nil)))
      (pss_one (ps_ret (pe_lst (pa_cons (pe_callB call_len_seq (by rfl) ml PySem.boot_len (pa_cons (pv 3) pa_nil)) pa_nil))))))))), ?_⟩
    obtain ⟨dx, hp⟩ := hA.obj
    have l6 := spellings_few m s
    have hfew := hG.few
    have hsec := hG.sec
    -- the refusals
    have no : ∀ (n : Int), Rp10.step h (.secret m s) = (h, Rp10.ok n) → ∀ r, H r = none → Q (.ref r) (upd H r (.lst [.int n])) := fun n e r nr =>
      q.stay hA (by rw [e]) (same_upd nr) nr (by rw [upd_same, e, out_ok])
    -- behind the first test
    have go : ¬ (m = 0 ∨ 15 < m ∨ Rp10.isSecret s = false) → tSeq (tIfS (tTest (tOp (rI0 fun i j => .bl (decide (j < i))) (tCB (rLenK K) (tCons (tFld K (tVar 0) "text") tNil)) (tC (.int 0)))) (tRet (tLst (tCons (tUn (rU fun i => .int (-i)) (tC (.int 3))) tNil))) tNext)
      (tSeq (tIfS (tTest (tOp rEq (tFld K (tVar 0) "secrets") (tC (.int 5)))) (tRet (tLst (tCons (tUn (rU fun i => .int (-i)) (tC (.int 7))) tNil))) tNext)
      (tSeq (tAsg (tCall (spSpell K) [] E0 (tCons (tVar 1) (tCons (tVar 2) tNil))) (gName 3))
      (tSeq (sFldAug K (tVar 0) (tC (.int 1)) L2.rAdd "secrets")
      (tSeq (tDrop (tBM K "list" rExtend (tFld K (tVar 0) "spellings") (tCons (tVar 3) tNil)))
      (tRet (tLst (tCons (tCB (rLenK K) (tCons (tVar 3) tNil)) tNil))))))) { nx := fun _ H' => Q .non H', rt := Q } [some (.ref p), some (.int (m : Int)), some (.ref a), none] H := fun c => by
      refine ⟨_, rfl, p, C, dx, _, _, rfl, hp, T.cl, T.nT, hF_text, tx, _, rfl, .inl (SqL.of hA.htx), _, _, rfl, rfl, _, rfl, ?_⟩
      rw [iv_length]
      by_cases ct : h.text ≠ []
      · have : 0 < h.text.length := List.length_pos_iff.mpr ct
        rw [decide_eq_true (show (0 : Int) < (h.text.length : Int) by omega)]
        exact iteT ⟨_, rfl, by show 1 ≤ sizeLine; decide, no (-3) (secret_late c ct)⟩
      have te : h.text = [] := Classical.not_not.mp ct
      rw [decide_eq_false (show ¬ (0 : Int) < (h.text.length : Int) by rw [te]; decide)]
      refine iteF ⟨_, rfl, p, C, dx, _, _, rfl, hp, T.cl, T.nS, hF_secrets, rfl, _, rfl, ?_⟩
      by_cases cn : h.secrets = 5
      · rw [decide_eq_true (show V.int (h.secrets : Int) = V.int 5 by rw [cn]; rfl)]
        exact iteT ⟨_, rfl, by show 1 ≤ sizeLine; decide, no (-7) (secret_many c ct cn)⟩
      rw [decide_eq_false (show ¬ V.int (h.secrets : Int) = V.int 5 by intro z; injection z with z; omega)]
      refine iteF ?_
      -- spellings = spellings_of(which, row)
      refine ⟨_, rfl, _, rfl, a, m, s, rfl, hS, hb, hl, fun H1 c1 N => ?_⟩
      obtain ⟨bs, hc, R1, nb, ncb⟩ := N.ex
      have hA1 := hA.same N.same
      have hp1 := N.same _ _ hp
      -- self.secrets += 1
      refine ⟨_, rfl, p, C, dx, _, _, rfl, hp1, T.cl, T.nS, hF_secrets, _, _, rfl, rfl, dx, _, hp1, (by show 4 < 1000; decide), ?_⟩
      have ps1 : putF "secrets" (V.int ((h.secrets : Int) + 1)) (hF h.secrets sp tx h.sent) = hF (h.secrets + 1) sp tx h.sent := put_secrets (n' := h.secrets + 1)
      rw [ps1]
      have npc : c1 ≠ p := fun e => by
        have z := N.new
        rw [e, hp] at z
        cases z
      have nsp : p ≠ sp := hA.p_sp
      have hsp2 : (upd H1 p (.ins C dx (hF (h.secrets + 1) sp tx h.sent))) sp = some (.lst (rv as)) := by
        rw [upd_ne nsp.symm]
        exact hA1.hsp
      have hc2 : (upd H1 p (.ins C dx (hF (h.secrets + 1) sp tx h.sent))) c1 = some (.lst (rv bs)) := by
        rw [upd_ne npc]
        exact hc
      -- self.spellings.extend(spellings)
      refine ⟨_, rfl, p, C, dx, _, _, rfl, upd_same, T.cl, T.nP, hF_spellings, .inl ⟨rfl, _, SqL.of hsp2⟩, _, rfl, sp, c1, _, _, rfl, rfl, hsp2, hc2, ?_, ?_⟩
      · rw [rv_length, rv_length, hA.rows.len, R1.len]
        exact sizes (by omega)
      have ncs : c1 ≠ sp := fun e => by
        have z := N.new
        rw [e, hA.hsp] at z
        cases z
      have hc3 : (upd (upd H1 p (.ins C dx (hF (h.secrets + 1) sp tx h.sent))) sp (.lst (rv as ++ rv bs))) c1 = some (.lst (rv bs)) := by
        rw [upd_ne ncs]
        exact hc2
      -- return [len(spellings)]
      refine ⟨_, rfl, c1, _, rfl, .inl (SqL.of hc3), by show 1 ≤ sizeLine; decide, fun r nr => ?_⟩
      rw [rv_length, R1.len]
      have es := secret_ok (h := h) c ct cn
      generalize hH3 : upd (upd H1 p (.ins C dx (hF (h.secrets + 1) sp tx h.sent))) sp (.lst (rv as ++ rv bs)) = H3 at nr hc3
      have k3 : ∀ b o, H1 b = some o → b ≠ p → b ≠ sp → H3 b = some o := fun b o e n1 n2 => by
        rw [← hH3, upd_ne n2, upd_ne n1]
        exact e
      have nbp : ∀ b ∈ bs, b ≠ p := fun b hb e => by
        have z := nb b hb
        rw [e, hp] at z
        cases z
      have nbs : ∀ b ∈ bs, b ≠ sp := fun b hb e => by
        have z := nb b hb
        rw [e, hA.hsp] at z
        cases z
      have nbt : ∀ b ∈ bs, b ≠ tx := fun b hb e => by
        have z := nb b hb
        rw [e, hA.htx] at z
        cases z
      have R3 : RowsAt H3 (as ++ bs) (h.ps ++ Rp10.spellings m s) := by
        rw [← hH3]
        refine ((hA1.rows.app R1).upd fun hm => ?_).upd fun hm => ?_
        · rcases List.mem_append.mp hm with hm | hm
          · exact hA.p_as hm
          · exact nbp p hm rfl
        · rcases List.mem_append.mp hm with hm | hm
          · exact hA.n2 hm
          · exact nbs sp hm rfl
      refine q _ sp tx (as ++ bs) r ?_ (Fr.of (fun b o e hb => ?_) fun b hb => ?_) ((((Live.of N.same).trans Live.put).trans Live.put).free (by rw [hH3]; exact nr)) ?_
      · rw [es]
        refine HouseAt.same (H := H3) ⟨⟨dx, ?_⟩, ?_, R3, ?_, hA.n1, fun hm => ?_, fun hm => ?_⟩ (same_upd nr)
        · rw [← hH3, upd_ne nsp, upd_same]
        · rw [← hH3, upd_same, rv_append]
        · exact k3 _ _ hA1.htx hA.p_tx.symm hA.n1.symm
        · rcases List.mem_append.mp hm with hm | hm
          · exact hA.n2 hm
          · exact nbs sp hm rfl
        · rcases List.mem_append.mp hm with hm | hm
          · exact hA.n3 hm
          · exact nbt tx hm rfl
      · simp only [List.mem_cons, not_or] at hb
        exact keep_at (k3 b o (N.same _ _ e) hb.1 hb.2.1) nr
      · simp only [List.mem_cons, List.mem_append] at hb ⊢
        rcases hb with hb | hb | hb | hb | hb
        · exact .inl (.inl hb)
        · exact .inl (.inr (.inl hb))
        · exact .inl (.inr (.inr (.inl hb)))
        · exact .inl (.inr (.inr (.inr hb)))
        · exact .inr (nb b hb)
      · rw [upd_same, es, out_ok]
    refine ⟨_, rfl, _, rfl, a, m, s, rfl, hS, hb, _, rfl, ?_⟩
    cases e : mayB m s with
    | true => exact iteF (go (mayB_yes e))
    | false => exact iteT ⟨_, rfl, by show 1 ≤ sizeLine; decide, no (-1) (secret_no (mayB_no e))⟩
end
end Sc

namespace Sc
open PySem PySem.Spec PyProof.Rows L2
open Rp10 (Bytes)
abbrev sFeed : Stmt := inClass sHouse 4
theorem scFeed : FnScope ["self", "piece", "covered", "settled", "shown"] ["self", "piece"] (defScope sFeed) := ⟨rfl, rfl, rfl, by decide +kernel, rfl, by decide +kernel, by decide +kernel⟩
def spFeed (C : Addr) : Sp := fun vs H Q _ => ∃ (p a sp tx : Addr) (as : List Addr) (h : Rp10.House) (b : Bytes), vs = [.ref p, .ref a] ∧ HouseAt C H p sp tx as h ∧ Good h ∧ H a = some (.lst (iv b)) ∧ b.length ≤ 320 ∧
  Done C H p sp tx as (Rp10.step h (.feed b)) Q
abbrev sEnds : Stmt := inClass sHouse 5
theorem scEnds : FnScope ["self", "covered", "shown"] ["self"] (defScope sEnds) := ⟨rfl, rfl, rfl, by decide +kernel, rfl, by decide +kernel, by decide +kernel⟩
def spEnds (C : Addr) : Sp := fun vs H Q _ => ∃ (p sp tx : Addr) (as : List Addr) (h : Rp10.House), vs = [.ref p] ∧ HouseAt C H p sp tx as h ∧ Good h ∧
  Done C H p sp tx as (Rp10.step h .ends) Q
theorem cl_len (ps : List Bytes) (t : Bytes) : (Rp10.covered ps 0 t).length = t.length := covered_length ps t 0
section
variable {P : Program} {w : World} {K : PySem.W.Frag} {mg : Str → Option Value} {base : Heap} {C : Addr}
theorem ok_feed {f : Addr} {fd : FuncData} (F : Fun K "feed" "House.feed" sFeed f fd) (T : Txt K C) (ml : mg "len" = none) (mM : ∃ t, mg "MOST_TEXT_BYTES" = some (.int 300 t))
    (D1 : Df P w K mg base 1 "covered_places" ["text", "spellings"] (spCov K)) (D2 : Df P w K mg base 3 "first_unsettled" ["text", "spellings", "covered"] (spUns K)) (D3 : Df P w K mg base 1 "shown_between" ["text", "covered", "start", "stop"] (spShown K)) :
    FnOk P w K mg base CX0 4 f fd ["self", "piece"] (spFeed C) := by
  obtain ⟨tM, mM⟩ := mM
  obtain ⟨f1, fd1, g1, k1, b1, G1⟩ := D1.ex
  obtain ⟨f2, fd2, g2, k2, b2, G2⟩ := D2.ex
  obtain ⟨f3, fd3, g3, k3, b3, G3⟩ := D3.ex
  refine F.ok scFeed (fun vs H Q E h => ?_) (fun cdv A outer s0 H vs Q E hr h => ?_)
  · obtain ⟨p, a, sp, tx, as, h, b, rfl, _⟩ := h
    rfl
  · obtain ⟨p, a, sp, tx, as, h, b, rfl, hA, hG, ha, hl, q⟩ := h
    have hr1 := hr.mono (show 1 ≤ 3 by decide)
    refine ⟨_, pss_cons (ps_if (pt_cmpR op_gt (pe_op op_add (pe_callB call_len_seq (by rfl) ml PySem.boot_len (pa_cons (pe_fld (pv 0) rfl) pa_nil)) (pe_callB call_len_seq (by rfl) ml PySem.boot_len (pa_cons (pv 1) pa_nil))) (pe_glob (v := .int 300) rfl mM ⟨_, rfl⟩) (nomark _))
        (pss_one (ps_ret (pe_lst (pa_cons (pe_un un_neg pe_int) pa_nil)))) pss_nil)
      (pss_cons (ps_expr (pe_bm PySem.F.plainAttrs_list PySem.F.slot_list_extend PySem.F.type_list_extend mt_extend (pe_fld (pv 0) rfl) (pa_cons (pv 1) pa_nil)))
      (pss_cons (ps_set (i := 2) scFeed.nd rfl (.inl rfl) (pe_call G1 hr1 rfl g1 k1 b1 .nil pass0 (pa_cons (pe_fld (pv 0) rfl) (pa_cons (pe_fld (pv 0) rfl) pa_nil))))
      (pss_cons (ps_set (i := 3) scFeed.nd rfl (.inl rfl) (pe_call G2 hr rfl g2 k2 b2 .nil pass0 (pa_cons (pe_fld (pv 0) rfl) (pa_cons (pe_fld (pv 0) rfl) (pa_cons (pv 2) pa_nil)))))
      (pss_cons (ps_set (i := 4) scFeed.nd rfl (.inl rfl) (pe_call G3 hr1 rfl g3 k3 b3 .nil pass0 (pa_cons (pe_fld (pv 0) rfl) (pa_cons (pv 2) (pa_cons (pe_fld (pv 0) rfl) (pa_cons (pv 3) pa_nil))))))
      (pss_cons (ps_fld (pv 0) (pv 3) rfl)
      (pss_one (ps_ret (pe_op op_cat (pe_lst (pa_cons (pe_op op_sub (pe_callB call_len_seq (by rfl) ml PySem.boot_len (pa_cons (pe_fld (pv 0) rfl) pa_nil)) (pv 3)) pa_nil)) (pv 4))))))))), ?_⟩
    obtain ⟨dx, hp⟩ := hA.obj
    have h300 := hG.text
    refine ⟨_, rfl, p, C, dx, _, _, rfl, hp, T.cl, T.nT, hF_text, tx, _, rfl, .inl (SqL.of hA.htx), _, rfl, a, _, rfl, .inl (SqL.of ha), _, _, rfl, rfl, _, _, rfl, rfl, _, rfl, ?_⟩
    rw [iv_length, iv_length]
    by_cases c : Rp10.TEXT < h.text.length + b.length
    · have c' : 300 < h.text.length + b.length := c
      rw [decide_eq_true (show (300 : Int) < (h.text.length : Int) + (b.length : Int) by omega)]
      refine iteT ⟨_, rfl, by show 1 ≤ sizeLine; decide, fun r nr => ?_⟩
      exact q.stay hA (by rw [feed_no c]) (same_upd nr) nr (by rw [upd_same, feed_no c, out_ok])
    have c' : ¬ 300 < h.text.length + b.length := c
    rw [decide_eq_false (show ¬ (300 : Int) < (h.text.length : Int) + (b.length : Int) by omega)]
    refine iteF ?_
    -- self.text.extend(piece)
    refine ⟨_, rfl, p, C, dx, _, _, rfl, hp, T.cl, T.nT, hF_text, .inl ⟨rfl, _, SqL.of hA.htx⟩, _, rfl, tx, a, _, _, rfl, rfl, hA.htx, ha, ?_, ?_⟩
    · rw [iv_length, iv_length]
      exact sizes (by omega)
    rw [← iv_append]
    have es := feed_ok c
    generalize ht : h.text ++ b = t at es
    have htl : t.length ≤ 300 := by
      rw [← ht, List.length_append]
      omega
    have nsp : p ≠ sp := hA.p_sp
    have ntx : p ≠ tx := hA.p_tx
    generalize hH1 : upd H tx (.lst (iv t)) = H1
    have hp1 : H1 p = some (.ins C dx (hF h.secrets sp tx h.sent)) := by
      rw [← hH1, upd_ne ntx]
      exact hp
    have hs1 : H1 sp = some (.lst (rv as)) := by
      rw [← hH1, upd_ne hA.n1]
      exact hA.hsp
    have ht1 : H1 tx = some (.lst (iv t)) := by
      rw [← hH1, upd_same]
    have R1 : RowsAt H1 as h.ps := by
      rw [← hH1]
      exact hA.rows.upd hA.n3
    have kp1 : ∀ b o, H b = some o → b ≠ tx → H1 b = some o := fun b o e n => by
      rw [← hH1, upd_ne n]
      exact e
    -- covered
    refine ⟨_, rfl, p, C, dx, _, _, rfl, hp1, T.cl, T.nT, hF_text, _, rfl, p, C, dx, _, _, rfl, hp1, T.cl, T.nP, hF_spellings, tx, sp, t, as, h.ps, rfl, SqL.of ht1, by omega, SqL.of hs1, R1, hG.short, fun H2 c2 s2 n2 hc2 => ?_⟩
    -- settled
    refine ⟨_, rfl, p, C, dx, _, _, rfl, s2 _ _ hp1, T.cl, T.nT, hF_text, _, rfl, p, C, dx, _, _, rfl, s2 _ _ hp1, T.cl, T.nP, hF_spellings, _, rfl, tx, sp, c2, t, as, h.ps, rfl, SqL.of (s2 _ _ ht1), by omega, SqL.of (s2 _ _ hs1), R1.same s2, SqL.of hc2, fun H3 s3 => ?_⟩
    have s13 : Same H1 H3 := s2.trans s3
    have hst := settled_le h.ps t
    have hsent : h.sent ≤ t.length := by
      have := hG.sent
      rw [← ht, List.length_append]
      omega
    -- shown
    refine ⟨_, rfl, p, C, dx, _, _, rfl, s13 _ _ hp1, T.cl, T.nT, hF_text, _, rfl, _, rfl, p, C, dx, _, _, rfl, s13 _ _ hp1, T.cl, T.nE, hF_settled, _, rfl, tx, c2, t, Rp10.covered h.ps 0 t, h.sent, Rp10.settled h.ps t, rfl, SqL.of (s13 _ _ ht1), by omega, SqL.of (s3 _ _ hc2), cl_len _ _, hsent, hst, fun H4 d s4 nd hd => ?_⟩
    have s14 : Same H1 H4 := s13.trans s4
    have hp4 := s14 _ _ hp1
    -- self.settled = settled
    refine ⟨_, rfl, _, rfl, p, C, dx, _, rfl, hp4, T.cl, T.nE, (by show 4 < 1000; decide), ?_⟩
    rw [put_settled (st' := Rp10.settled h.ps t)]
    have npd : p ≠ d := ne_of_none (s13 _ _ hp1) nd
    generalize hH5 : upd H4 p (.ins C dx (hF h.secrets sp tx (Rp10.settled h.ps t))) = H5
    have hp5 : H5 p = some (.ins C dx (hF h.secrets sp tx (Rp10.settled h.ps t))) := by
      rw [← hH5, upd_same]
    have k5 : ∀ b o, H4 b = some o → b ≠ p → H5 b = some o := fun b o e n => by
      rw [← hH5, upd_ne n]
      exact e
    have ht5 := k5 _ _ (s14 _ _ ht1) ntx.symm
    have hd5 := k5 _ _ hd npd.symm
    -- [len(self.text) - settled] + shown
    refine ⟨_, rfl, p, C, dx, _, _, rfl, hp5, T.cl, T.nT, hF_text, tx, _, rfl, .inl (SqL.of ht5), _, rfl, _, _, rfl, rfl, by show 1 ≤ sizeLine; decide, fun e1 ne1 => ?_⟩
    rw [iv_length]
    refine ⟨_, rfl, e1, d, _, _, rfl, rfl, upd_same, keep_at hd5 ne1, ?_, fun r nr => ?_⟩
    · rw [iv_length]
      have := between_length t (Rp10.covered h.ps 0 t) (Rp10.settled h.ps t) _ h.sent rfl hst (by rw [cl_len]; exact hst)
      exact sizes (by show 1 + _ ≤ 16777216; omega)
    have s56 : Same H5 (upd (upd H5 e1 (.lst [.int ((t.length : Int) - (Rp10.settled h.ps t : Int))])) r (.lst ([.int ((t.length : Int) - (Rp10.settled h.ps t : Int))] ++ iv (between t (Rp10.covered h.ps 0 t) h.sent (Rp10.settled h.ps t))))) := (same_upd ne1).trans (same_upd nr)
    refine q _ sp tx as r ?_ (Fr.of (fun b o e hb => ?_) fun b hb => .inl hb) (Live.free (((hH1 ▸ Live.put : Live H H1).trans (Live.of s14)).trans ((hH5 ▸ Live.put : Live H4 H5).trans Live.put)) nr) ?_
    · rw [es]
      refine HouseAt.same (H := H5) ⟨⟨dx, hp5⟩, k5 _ _ (s14 _ _ hs1) nsp.symm, ?_, ht5, hA.n1, hA.n2, hA.n3⟩ s56
      rw [← hH5]
      exact (R1.same s14).upd hA.p_as
    · simp only [List.mem_cons, not_or] at hb
      exact s56 _ _ (k5 b o (s14 _ _ (kp1 b o e hb.2.2.1)) hb.1)
    · rw [upd_same, es, out_iv, part_is]
      have ei : ((t.length : Int) - (Rp10.settled h.ps t : Int)) = ((t.length - Rp10.settled h.ps t : Nat) : Int) := by omega
      exact congrArg (fun z => some (HO.lst (V.int z :: iv (between t (Rp10.covered h.ps 0 t) h.sent (Rp10.settled h.ps t))))) ei
theorem ok_ends {f : Addr} {fd : FuncData} (F : Fun K "ends" "House.ends" sEnds f fd) (T : Txt K C) (ml : mg "len" = none)
    (D1 : Df P w K mg base 1 "covered_places" ["text", "spellings"] (spCov K)) (D3 : Df P w K mg base 1 "shown_between" ["text", "covered", "start", "stop"] (spShown K)) (M1 : Mt P w K mg base C 1 "begin_text" ["self"] (spBText C)) :
    FnOk P w K mg base CX0 2 f fd ["self"] (spEnds C) := by
  obtain ⟨f1, fd1, g1, k1, b1, G1⟩ := D1.ex
  obtain ⟨f3, fd3, g3, k3, b3, G3⟩ := D3.ex
  obtain ⟨f4, fd4, m4, b4, G4⟩ := M1.ex
  refine F.ok scEnds (fun vs H Q E h => ?_) (fun cdv A outer s0 H vs Q E hr h => ?_)
  · obtain ⟨p, sp, tx, as, h, rfl, _⟩ := h
    rfl
  · obtain ⟨p, sp, tx, as, h, rfl, hA, hG, q⟩ := h
    refine ⟨_, pss_cons (ps_set (i := 1) scEnds.nd rfl (.inl rfl) (pe_call G1 hr rfl g1 k1 b1 .nil pass0 (pa_cons (pe_fld (pv 0) rfl) (pa_cons (pe_fld (pv 0) rfl) pa_nil))))
      (pss_cons (ps_set (i := 2) scEnds.nd rfl (.inl rfl) (pe_call G3 hr rfl g3 k3 b3 .nil pass0 (pa_cons (pe_fld (pv 0) rfl) (pa_cons (pv 1) (pa_cons (pe_fld (pv 0) rfl) (pa_cons (pe_callB call_len_seq (by rfl) ml PySem.boot_len (pa_cons (pe_fld (pv 0) rfl) pa_nil)) pa_nil))))))
      (pss_cons (ps_expr (pe_meth0 (pv 0) T.cl m4 G4 hr b4 .nil pass0))
      (pss_one (ps_ret (pe_op op_cat (pe_lst (pa_cons (pe_bm PySem.F.plainAttrs_list PySem.F.slot_list_count PySem.F.type_list_count mt_cntB (pv 1) (pa_cons pe_bl pa_nil)) pa_nil)) (pv 2)))))), ?_⟩
    obtain ⟨dx, hp⟩ := hA.obj
    have h300 := hG.text
    have nsp : p ≠ sp := hA.p_sp
    have ntx : p ≠ tx := hA.p_tx
    refine ⟨_, rfl, p, C, dx, _, _, rfl, hp, T.cl, T.nT, hF_text, _, rfl, p, C, dx, _, _, rfl, hp, T.cl, T.nP, hF_spellings, tx, sp, h.text, as, h.ps, rfl, SqL.of hA.htx, by omega, SqL.of hA.hsp, hA.rows, hG.short, fun H2 c2 s2 n2 hc2 => ?_⟩
    refine ⟨_, rfl, p, C, dx, _, _, rfl, s2 _ _ hp, T.cl, T.nT, hF_text, _, rfl, _, rfl, p, C, dx, _, _, rfl, s2 _ _ hp, T.cl, T.nE, hF_settled, _, rfl, p, C, dx, _, _, rfl, s2 _ _ hp, T.cl, T.nT, hF_text, tx, _, rfl, .inl (SqL.of (s2 _ _ hA.htx)), ?_⟩
    rw [iv_length]
    refine ⟨tx, c2, h.text, Rp10.covered h.ps 0 h.text, h.sent, h.text.length, rfl, SqL.of (s2 _ _ hA.htx), by omega, SqL.of hc2, cl_len _ _, hG.sent, Nat.le_refl _, fun H3 d s3 nd hd => ?_⟩
    have s13 : Same H H3 := s2.trans s3
    have hp3 := s13 _ _ hp
    refine ⟨_, rfl, p, dx, _, rfl, hp3, lk_none (by decide +kernel) (by decide +kernel) (by decide +kernel) (by decide +kernel), p, dx, _, rfl, hp3, (by show 4 < 100; decide), fun H4 tx' nt' ht' hp4 k4 => ?_⟩
    rw [fresh_text] at hp4
    have npc : p ≠ c2 := ne_of_none hp n2
    have npd : p ≠ d := ne_of_none (s2 _ _ hp) nd
    have hc4 := k4 _ _ (s3 _ _ hc2) npc.symm
    have hd4 := k4 _ _ hd npd.symm
    refine ⟨_, rfl, .inl ⟨rfl, _, SqL.of hc4⟩, c2, _, rfl, rfl, SqL.of hc4, by show 1 ≤ sizeLine; decide, fun e1 ne1 => ?_⟩
    refine ⟨_, rfl, e1, d, _, _, rfl, rfl, upd_same, keep_at hd4 ne1, ?_, fun r nr => ?_⟩
    · rw [iv_length]
      have := between_length h.text (Rp10.covered h.ps 0 h.text) h.text.length _ h.sent rfl (Nat.le_refl _) (by rw [cl_len]; exact Nat.le_refl _)
      exact sizes (by show 1 + _ ≤ 16777216; omega)
    generalize hX : V.int (((Rp10.covered h.ps 0 h.text).filter fun b => b).length : Nat) = X at ne1 nr
    have s56 : Same H4 (upd (upd H4 e1 (.lst [X])) r (.lst ([X] ++ iv (between h.text (Rp10.covered h.ps 0 h.text) h.sent h.text.length)))) := (same_upd ne1).trans (same_upd nr)
    have ntx' : H tx' = none := free_of s13 nt'
    have nst : sp ≠ tx' := ne_of_none hA.hsp ntx'
    refine q _ sp tx' as r ?_ (Fr.of (fun b o e hb => ?_) fun b hb => ?_) (Live.free (H' := H4) (fun b o e => ?_) (free_of (same_upd ne1) nr)) ?_
    · refine HouseAt.same (H := H4) ⟨⟨dx, hp4⟩, k4 _ _ (s13 _ _ hA.hsp) nsp.symm, ⟨hA.rows.len, fun i a r h1 h2 => k4 _ _ (s13 _ _ (hA.rows.at_ i a r h1 h2)) fun e => ?_⟩, ht', nst, hA.n2, fun hm => ?_⟩ s56
      · subst e
        exact hA.p_as (List.mem_of_getElem? h1)
      · obtain ⟨r, _, e⟩ := hA.rows.mem hm
        rw [ntx'] at e
        cases e
    · simp only [List.mem_cons, not_or] at hb
      exact s56 _ _ (k4 b o (s13 _ _ e) hb.1)
    · simp only [List.mem_cons] at hb ⊢
      rcases hb with hb | hb | hb | hb
      · exact .inl (.inl hb)
      · exact .inl (.inr (.inl hb))
      · subst hb
        exact .inr ntx'
      · exact .inl (.inr (.inr (.inr hb)))
    · by_cases hb : b = p
      · subst hb
        exact ⟨_, hp4⟩
      · exact ⟨_, k4 b o (s13 _ _ e) hb⟩
    · rw [upd_same]
      show _ = some (HO.lst ((Rp10Neutral.out ⟨(((Rp10.covered h.ps 0 h.text).filter fun x => x).length : Nat), Rp10.part h.ps h.text h.sent h.text.length⟩).map V.int))
      rw [out_iv, part_is, ← hX]
      rfl
end
end Sc

namespace Sc
open PySem PySem.Spec PyProof.Rows L2
open Rp10 (Bytes)
abbrev sHeld : Stmt := inClass sHouse 6
theorem scHeld : FnScope ["self", "rest"] ["self"] (defScope sHeld) := ⟨rfl, rfl, rfl, by decide +kernel, rfl, by decide +kernel, by decide +kernel⟩
def spHeld (C : Addr) : Sp := fun vs H Q _ => ∃ (p sp tx : Addr) (as : List Addr) (h : Rp10.House), vs = [.ref p] ∧ HouseAt C H p sp tx as h ∧ Good h ∧
  Done C H p sp tx as (Rp10.step h .held) Q
abbrev sSpellM : Stmt := inClass sHouse 7
theorem scSpellM : FnScope ["self", "which", "row", "spellings", "answer", "spelling"] ["self", "which", "row"] (defScope sSpellM) := ⟨rfl, rfl, rfl, by decide +kernel, rfl, by decide +kernel, by decide +kernel⟩
def spSpellM (K : PySem.W.Frag) (C : Addr) : Sp := fun vs H Q _ => ∃ (p a sp tx : Addr) (as : List Addr) (h : Rp10.House) (m : Nat) (s : Bytes), vs = [.ref p, .int (m : Int), .ref a] ∧ HouseAt C H p sp tx as h ∧ Good h ∧ SqL K H a (iv s) ∧ (∀ b ∈ s, b ≤ 255) ∧ s.length ≤ 20 ∧
  Done C H p sp tx as (Rp10.step h (.spell m s)) Q
abbrev sAll : Stmt := inClass sHouse 8
theorem scAll : FnScope ["self", "text", "covered"] ["self", "text"] (defScope sAll) := ⟨rfl, rfl, rfl, by decide +kernel, rfl, by decide +kernel, by decide +kernel⟩
def spAll (K : PySem.W.Frag) (C : Addr) : Sp := fun vs H Q _ => ∃ (p a sp tx : Addr) (as : List Addr) (h : Rp10.House) (b : Bytes), vs = [.ref p, .ref a] ∧ HouseAt C H p sp tx as h ∧ Good h ∧ SqL K H a (iv b) ∧ b.length ≤ 320 ∧
  Done C H p sp tx as (Rp10.step h (.all b)) Q
def rowsOut (ps : List Bytes) : List Nat := ps.flatMap fun p => p.length :: p
theorem rowsOut_more {ps : List Bytes} {i : Nat} {p : Bytes} (h : ps[i]? = some p) : rowsOut (ps.take (i + 1)) = rowsOut (ps.take i) ++ (p.length :: p) := by
  unfold rowsOut
  rw [take_more h, List.flatMap_append]
  simp
section
variable {P : Program} {w : World} {K : PySem.W.Frag} {mg : Str → Option Value} {base : Heap} {C : Addr}
theorem ok_held {f : Addr} {fd : FuncData} {k : Nat} (F : Fun K "held" "House.held" sHeld f fd) (T : Txt K C) (ml : mg "len" = none) :
    FnOk P w K mg base CX0 (k + 1) f fd ["self"] (spHeld C) := by
  refine F.ok scHeld (fun vs H Q E h => ?_) (fun cdv A outer s0 H vs Q E hr h => ?_)
  · obtain ⟨p, sp, tx, as, h, rfl, _⟩ := h
    rfl
  · obtain ⟨p, sp, tx, as, h, rfl, hA, hG, q⟩ := h
    refine ⟨_, pss_cons (ps_set (i := 1) scHeld.nd rfl (.inl rfl) (pe_slice sl_list (pe_fld (pv 0) rfl) (po_some (pe_fld (pv 0) rfl)) po_none))
      (pss_one (ps_ret (pe_op op_cat (pe_lst (pa_cons (pe_callB call_len_seq (by rfl) ml PySem.boot_len (pa_cons (pv 1) pa_nil)) pa_nil)) (pv 1)))), ?_⟩
    obtain ⟨dx, hp⟩ := hA.obj
    have h300 := hG.text
    have hse := hG.sent
    refine ⟨_, rfl, p, C, dx, _, _, rfl, hp, T.cl, T.nT, hF_text, _, rfl, p, C, dx, _, _, rfl, hp, T.cl, T.nE, hF_settled, _, rfl, tx, _, rfl, SqL.of hA.htx, fun c nc => ?_⟩
    rw [cut_from, ← iv_drop]
    refine ⟨_, rfl, c, _, rfl, .inl (SqL.of upd_same), by show 1 ≤ sizeLine; decide, fun e1 ne1 => ?_⟩
    rw [iv_length, List.length_drop]
    refine ⟨_, rfl, e1, c, _, _, rfl, rfl, upd_same, keep_at upd_same ne1, ?_, fun r nr => ?_⟩
    · rw [iv_length, List.length_drop]
      exact sizes (by show 1 + _ ≤ 16777216; omega)
    refine q.stay hA rfl ((same_upd nc).trans ((same_upd ne1).trans (same_upd nr))) (free_of ((same_upd nc).trans (same_upd ne1)) nr) ?_
    rw [upd_same]
    show _ = some (HO.lst ((Rp10Neutral.out ⟨((h.text.length - h.sent : Nat) : Int), h.text.drop h.sent⟩).map V.int))
    rw [out_iv]
    rfl
theorem ok_spellm {f : Addr} {fd : FuncData} (F : Fun K "spell" "House.spell" sSpellM f fd) (ml : mg "len" = none)
    (D1 : Df P w K mg base 2 "may_be_spelled" ["which", "row"] (spMay K)) (D2 : Df P w K mg base 3 "spellings_of" ["which", "row"] (spSpell K)) :
    FnOk P w K mg base CX0 4 f fd ["self", "which", "row"] (spSpellM K C) := by
  obtain ⟨f1, fd1, g1, k1, b1, G1⟩ := D1.ex
  obtain ⟨f2, fd2, g2, k2, b2, G2⟩ := D2.ex
  refine F.ok scSpellM (fun vs H Q E h => ?_) (fun cdv A outer s0 H vs Q E hr h => ?_)
  · obtain ⟨p, a, sp, tx, as, h, m, s, rfl, _⟩ := h
    rfl
  · obtain ⟨p, a, sp, tx, as, h, m, s, rfl, hA, hG, hS, hb, hl, q⟩ := h
    have hr1 := hr.mono (show 2 ≤ 3 by decide)
    refine ⟨_, pss_cons (ps_if (pt_not (pt_val (pe_call G1 hr1 rfl g1 k1 b1 .nil pass0 (pa_cons (pv 1) (pa_cons (pv 2) pa_nil)))))
        (pss_one (ps_ret (pe_lst (pa_cons (pe_un un_neg pe_int) pa_nil)))) pss_nil)
      (pss_cons (ps_set (i := 3) scSpellM.nd rfl (.inl rfl) (pe_call G2 hr rfl g2 k2 b2 .nil pass0 (pa_cons (pv 1) (pa_cons (pv 2) pa_nil))))
      (pss_cons (ps_set (i := 4) scSpellM.nd rfl (.inl rfl) (pe_lst (pa_cons (pe_callB call_len_seq (by rfl) ml PySem.boot_len (pa_cons (pv 3) pa_nil)) pa_nil)))
      (pss_cons (ps_for PassesOwn.never rfl (pi_list (pv 3)) (pg_name (i := 5) scSpellM.nd rfl (.inl rfl))
        (pss_cons (ps_expr (pe_bm PySem.F.plainAttrs_list PySem.F.slot_list_append PySem.F.type_list_append mt_append (pv 4) (pa_cons (pe_callB call_len_seq (by rfl) ml PySem.boot_len (pa_cons (pv 5) pa_nil)) pa_nil)))
        (pss_one (ps_expr (pe_bm PySem.F.plainAttrs_list PySem.F.slot_list_extend PySem.F.type_list_extend mt_extend (pv 4) (pa_cons (pv 5) pa_nil))))))
      (pss_one (ps_ret (pv 4)))))), ?_⟩
    have no : Rp10.step h (.spell m s) = (h, Rp10.ok (-1)) → ∀ r, H r = none → Q (.ref r) (upd H r (.lst [.int (-1)])) := fun e r nr =>
      q.stay hA (by rw [e]) (same_upd nr) nr (by rw [upd_same, e, out_ok])
    have go : ¬ (m = 0 ∨ 15 < m ∨ Rp10.isSecret s = false) →
      tSeq (tAsg (tCall (spSpell K) [] E0 (tCons (tVar 1) (tCons (tVar 2) tNil))) (gName 3))
      (tSeq (tAsg (tLst (tCons (tCB (rLenK K) (tCons (tVar 3) tNil)) tNil)) (gName 4))
      (tSeq (tFor (iList K (tVar 3)) (gName 5) (tSeq (tDrop (tBM K "list" rAppend (tVar 4) (tCons (tCB (rLenK K) (tCons (tVar 5) tNil)) tNil))) (tDrop (tBM K "list" rExtend (tVar 4) (tCons (tVar 5) tNil)))))
      (tRet (tVar 4)))) { nx := fun _ H' => Q .non H', rt := Q } [some (.ref p), some (.int (m : Int)), some (.ref a), none, none, none] H := fun c => by
      refine ⟨_, rfl, _, rfl, a, m, s, rfl, hS, hb, hl, fun H1 c1 N => ?_⟩
      obtain ⟨bs, hc, R1, nb, ncb⟩ := N.ex
      have l6 := spellings_few m s
      have hs : Rp10.isSecret s = true := by
        cases e : Rp10.isSecret s with
        | true => rfl
        | false => exact absurd (.inr (.inr e)) c
      have l24 := spellings_le m s (isSecret_len hs).2
      refine ⟨_, rfl, c1, _, rfl, .inl (SqL.of hc), by show 1 ≤ sizeLine; decide, fun o no => ?_⟩
      rw [rv_length, R1.len]
      have s2 : Same H1 (upd H1 o (.lst [.int ((Rp10.spellings m s).length : Nat)])) := same_upd no
      have noH : H o = none := free_of N.same no
      refine ⟨_, rfl, c1, rfl, ⟨_, s2.seq (SqL.of hc)⟩, for_list (K := K) (a := c1) (xs := rv bs)
        (fun i σ H' => ∃ v, σ = [some (.ref p), some (.int (m : Int)), some (.ref a), some (.ref c1), some (.ref o), v] ∧ Same H1 H' ∧ H' o = some (.lst (.int ((Rp10.spellings m s).length : Nat) :: iv (rowsOut ((Rp10.spellings m s).take i)))) ∧ (rowsOut ((Rp10.spellings m s).take i)).length ≤ 25 * i)
        ⟨none, rfl, s2, upd_same, Nat.le_refl _⟩ (fun i σ H' _ ⟨_, _, s5, _⟩ => s5.seq (SqL.of hc)) ?_ ?_⟩
      · rintro i y σ H2 hi ⟨v, rfl, s5, ho, hlen⟩
        obtain ⟨pa, hpa, rfl⟩ := rv_at hi
        obtain ⟨r, hr', hpr⟩ := R1.get hpa
        have hi6 : i < 6 := by
          have := (List.getElem?_eq_some_iff.mp hr').1
          omega
        have hr24 := l24 r (List.mem_of_getElem? hr')
        have npo : pa ≠ o := ne_of_none hpr no
        have hpr2 := s5 _ _ hpr
        refine ⟨_, rfl, .inl ⟨rfl, _, SqL.of ho⟩, _, rfl, pa, _, rfl, .inl (SqL.of hpr2), o, _, _, rfl, rfl, ho, ?_, ?_⟩
        · rw [List.length_cons, iv_length]
          exact sizes_lt (by omega)
        rw [iv_length]
        refine ⟨_, rfl, .inl ⟨rfl, _, SqL.of upd_same⟩, _, rfl, o, pa, _, iv r, rfl, rfl, upd_same, ?_, ?_, ?_⟩
        · rw [upd_ne npo]
          exact hpr2
        · rw [List.length_append, List.length_cons, iv_length, iv_length]
          exact sizes (by show _ + 1 + 1 + r.length ≤ 16777216; omega)
        refine ⟨_, rfl, same_on no (same_on no s5), ?_, ?_⟩
        · rw [upd_same, rowsOut_more hr', iv_append, List.append_assoc]
          rfl
        · rw [rowsOut_more hr', List.length_append, List.length_cons]
          omega
      · rintro σ H2 ⟨v, rfl, s5, ho, hlen⟩
        rw [rv_length, R1.len, List.take_length] at ho
        refine ⟨_, rfl, ?_⟩
        refine q.stay hA (by rw [spell_ok c]) (N.same.trans s5) noH ?_
        rw [spell_ok c, ho, out_iv]
        rfl
    refine ⟨_, rfl, _, rfl, a, m, s, rfl, hS, hb, _, rfl, ?_⟩
    cases e : mayB m s with
    | true => exact iteF (go (mayB_yes e))
    | false => exact iteT ⟨_, rfl, by show 1 ≤ sizeLine; decide, no (spell_no (mayB_no e))⟩
theorem ok_all {f : Addr} {fd : FuncData} (F : Fun K "whole" "House.whole" sAll f fd) (T : Txt K C) (ml : mg "len" = none) (mM : ∃ t, mg "MOST_TEXT_BYTES" = some (.int 300 t))
    (D1 : Df P w K mg base 1 "covered_places" ["text", "spellings"] (spCov K)) (D3 : Df P w K mg base 1 "shown_between" ["text", "covered", "start", "stop"] (spShown K)) :
    FnOk P w K mg base CX0 2 f fd ["self", "text"] (spAll K C) := by
  obtain ⟨tM, mM⟩ := mM
  obtain ⟨f1, fd1, g1, k1, b1, G1⟩ := D1.ex
  obtain ⟨f3, fd3, g3, k3, b3, G3⟩ := D3.ex
  refine F.ok scAll (fun vs H Q E h => ?_) (fun cdv A outer s0 H vs Q E hr h => ?_)
  · obtain ⟨p, a, sp, tx, as, h, b, rfl, _⟩ := h
    rfl
  · obtain ⟨p, a, sp, tx, as, h, b, rfl, hA, hG, hS, hl, q⟩ := h
    refine ⟨_, pss_cons (ps_if (pt_cmpR op_gt (pe_callB call_len_seq (by rfl) ml PySem.boot_len (pa_cons (pv 1) pa_nil)) (pe_glob (v := .int 300) rfl mM ⟨_, rfl⟩) (nomark _))
        (pss_one (ps_ret (pe_lst (pa_cons (pe_un un_neg pe_int) pa_nil)))) pss_nil)
      (pss_cons (ps_set (i := 2) scAll.nd rfl (.inl rfl) (pe_call G1 hr rfl g1 k1 b1 .nil pass0 (pa_cons (pv 1) (pa_cons (pe_fld (pv 0) rfl) pa_nil))))
      (pss_one (ps_ret (pe_op op_cat (pe_lst (pa_cons (pe_callB call_len_seq (by rfl) ml PySem.boot_len (pa_cons (pv 1) pa_nil)) pa_nil))
        (pe_call G3 hr rfl g3 k3 b3 .nil pass0 (pa_cons (pv 1) (pa_cons (pv 2) (pa_cons pe_int (pa_cons (pe_callB call_len_seq (by rfl) ml PySem.boot_len (pa_cons (pv 1) pa_nil)) pa_nil))))))))), ?_⟩
    obtain ⟨dx, hp⟩ := hA.obj
    refine ⟨_, rfl, a, _, rfl, .inl hS, _, _, rfl, rfl, _, rfl, ?_⟩
    rw [iv_length]
    by_cases c : Rp10.TEXT < b.length
    · have c' : 300 < b.length := c
      rw [decide_eq_true (show (300 : Int) < (b.length : Int) by omega)]
      refine iteT ⟨_, rfl, by show 1 ≤ sizeLine; decide, fun r nr => ?_⟩
      exact q.stay hA (by rw [all_no c]) (same_upd nr) nr (by rw [upd_same, all_no c, out_ok])
    have c' : ¬ 300 < b.length := c
    rw [decide_eq_false (show ¬ (300 : Int) < (b.length : Int) by omega)]
    refine iteF ?_
    refine ⟨_, rfl, _, rfl, p, C, dx, _, _, rfl, hp, T.cl, T.nP, hF_spellings, a, sp, b, as, h.ps, rfl, hS, by omega, SqL.of hA.hsp, hA.rows, hG.short, fun H2 c2 s2 n2 hc2 => ?_⟩
    refine ⟨_, rfl, a, _, rfl, .inl (s2.seq hS), by show 1 ≤ sizeLine; decide, fun e1 ne1 => ?_⟩
    rw [iv_length]
    have s3 : Same H (upd H2 e1 (.lst [.int (b.length : Int)])) := s2.trans (same_upd ne1)
    refine ⟨_, rfl, _, rfl, _, rfl, a, _, rfl, .inl (s3.seq hS), ?_⟩
    rw [iv_length]
    refine ⟨a, c2, b, Rp10.covered h.ps 0 b, 0, b.length, rfl, s3.seq hS, by omega, SqL.of (keep_at hc2 ne1), cl_len _ _, Nat.zero_le _, Nat.le_refl _, fun H3 d s4 nd hd => ?_⟩
    refine ⟨e1, d, _, _, rfl, rfl, s4 _ _ upd_same, hd, ?_, fun r nr => ?_⟩
    · rw [iv_length]
      have := between_length b (Rp10.covered h.ps 0 b) b.length _ 0 rfl (Nat.le_refl _) (by rw [cl_len]; exact Nat.le_refl _)
      exact sizes (by show 1 + _ ≤ 16777216; omega)
    refine q.stay hA (by rw [all_ok c]) (s3.trans (s4.trans (same_upd nr))) (free_of (s3.trans s4) nr) ?_
    rw [upd_same, all_ok c, out_iv, whole_is]
    rfl
end
end Sc

namespace Sc
open PySem PySem.Spec PyProof.Rows L2
open Rp10 (Bytes)
def jv (l : List Int) : List V := l.map V.int
theorem jv_length (l : List Int) : (jv l).length = l.length := List.length_map _
theorem jv_zs (l : List Nat) : jv (zs l) = iv l := List.map_map
theorem jv_append (a b : List Int) : jv (a ++ b) = jv a ++ jv b := List.map_append
theorem at_drop {ns : List Int} {n : Nat} {x : Int} {r : List Int} (h : ns.drop n = x :: r) : (jv ns)[n]? = some (.int x) := by
  have e : (ns.drop n)[0]? = some x := by rw [h]; rfl
  rw [List.getElem?_drop, Nat.add_zero] at e
  unfold jv
  rw [List.getElem?_map, e]
  rfl
theorem drop_more {ns : List Int} {n : Nat} {a b : List Int} (h : ns.drop n = a ++ b) : ns.drop (n + a.length) = b := by
  rw [← List.drop_drop, h]
  exact List.drop_left
theorem no_int {i j : Int} {A B : Prop} (h : i ≠ j) (b : B) : if decide (V.int i = V.int j) = true then A else B := by
  rw [decide_eq_false (fun z => h (by injection z))]
  exact iteF b
theorem yes_int {i : Int} {A B : Prop} (a : A) : if decide (V.int i = V.int i) = true then A else B := by
  rw [decide_eq_true rfl]
  exact iteT a
theorem Done.mono {C : Addr} {H H1 : Hp} {p sp tx : Addr} {as : List Addr} {r : Rp10.House × Rp10.Ans} {Q : VK} (d : Done C H p sp tx as r Q) (s : Same H H1) : Done C H1 p sp tx as r Q :=
  fun H' sp' tx' as' q hA fr hn hq => d H' sp' tx' as' q hA (fun b o e hb => fr b o (s b o e) hb) (s.free hn) hq
abbrev sRow : Stmt := top 30
theorem scRow : FnScope ["calls", "place"] ["calls", "place"] (defScope sRow) := ⟨rfl, rfl, rfl, by decide +kernel, rfl, by decide +kernel, by decide +kernel⟩
def spRow (K : PySem.W.Frag) : Sp := fun vs H Q _ => ∃ (a : Addr) (ns : List Int) (n : Nat) (r : Bytes) (rest : List Int), vs = [.ref a, .int (n : Int)] ∧ SqL K H a (jv ns) ∧ ns.drop n = (r.length : Int) :: (zs r ++ rest) ∧
  ∀ H' p, Same H H' → H p = none → H' p = some (.lst (iv r)) → Q (.ref p) H'
abbrev sAt : Stmt := top 31
theorem scAt : FnScope ["house", "calls", "place", "call"] ["house", "calls", "place"] (defScope sAt) := ⟨rfl, rfl, rfl, by decide +kernel, rfl, by decide +kernel, by decide +kernel⟩
def spAt (K : PySem.W.Frag) (C : Addr) : Sp := fun vs H Q _ => ∃ (p a sp tx : Addr) (as : List Addr) (h : Rp10.House) (ns : List Int) (n : Nat) (x : Rp10.Call) (rest : List Int), vs = [.ref p, .ref a, .int (n : Int)] ∧ HouseAt C H p sp tx as h ∧ Good h ∧
  SqL K H a (jv ns) ∧ ns.drop n = flat1 x ++ rest ∧ Fit x ∧ Done C H p sp tx as (Rp10.step h x) Q
abbrev sBehind : Stmt := top 32
theorem scBehind : FnScope ["calls", "place"] ["calls", "place"] (defScope sBehind) := ⟨rfl, rfl, rfl, by decide +kernel, rfl, by decide +kernel, by decide +kernel⟩
def spBehind (K : PySem.W.Frag) : Sp := fun vs H Q _ => ∃ (a : Addr) (ns : List Int) (n : Nat) (x : Rp10.Call) (rest : List Int), vs = [.ref a, .int (n : Int)] ∧ SqL K H a (jv ns) ∧ ns.drop n = flat1 x ++ rest ∧
  ∀ H', Same H H' → Q (.int ((n + (flat1 x).length : Nat) : Int)) H'
section
variable {P : Program} {w : World} {K : PySem.W.Frag} {mg : Str → Option Value} {base : Heap} {C : Addr}
theorem ok_row {f : Addr} {fd : FuncData} {k : Nat} (F : Fun K "row_at" "row_at" sRow f fd) : FnOk P w K mg base CX0 (k + 1) f fd ["calls", "place"] (spRow K) := by
  refine F.ok scRow (fun vs H Q E h => ?_) (fun cdv A outer s0 H vs Q E hr h => ?_)
  · obtain ⟨a, ns, n, r, rest, rfl, _⟩ := h
    rfl
  · obtain ⟨a, ns, n, r, rest, rfl, hS, hd, q⟩ := h
    refine ⟨_, pss_one (ps_ret (pe_slice sl_list (pv 0) (po_some (pe_op op_add (pv 1) pe_int)) (po_some (pe_op op_add (pe_op op_add (pv 1) pe_int) (pe_ix ix_list (pv 0) (pv 1) (fun _ _ => rfl)))))), ?_⟩
    refine ⟨_, rfl, _, rfl, _, _, rfl, rfl, _, rfl, _, rfl, _, _, rfl, rfl, _, rfl, _, rfl, a, _, _, _, rfl, rfl, hS, atI_nat (at_drop hd), _, _, rfl, rfl, _, rfl, a, _, rfl, hS, fun c nc => ?_⟩
    have hd1 : ns.drop (n + 1) = zs r ++ rest := drop_more (a := [(r.length : Int)]) hd
    have hlen : n + 1 + r.length ≤ ns.length := by
      have e := congrArg List.length hd1
      rw [List.length_drop, List.length_append, zs_length] at e
      by_cases c : n + 1 ≤ ns.length
      · omega
      · have z : ns.drop n = [] := List.drop_eq_nil_of_le (by omega)
        rw [z] at hd
        cases hd
    have ec : cutV (jv ns) (some ((n : Int) + 1)) (some ((n : Int) + 1 + (r.length : Int))) = iv r := by
      have h1 : ((n : Int) + 1) = ((n + 1 : Nat) : Int) := rfl
      have h2 : ((n : Int) + 1 + (r.length : Int)) = ((n + 1 + r.length : Nat) : Int) := by omega
      rw [h2, h1, cut_mid _ _ _ (by rw [jv_length]; omega) (by rw [jv_length]; omega), show (jv ns).drop (n + 1) = jv (ns.drop (n + 1)) from List.map_drop.symm, hd1, jv_append, jv_zs, Nat.add_sub_cancel_left]
      exact List.take_left' (iv_length r)
    refine q _ c (same_upd nc) nc ?_
    rw [upd_same]
    exact congrArg (fun z => some (HO.lst z)) ec
theorem ok_behind {f : Addr} {fd : FuncData} {k : Nat} (F : Fun K "place_behind" "place_behind" sBehind f fd)
    (m1 : ∃ t, mg "SECRET" = some (.int 1 t)) (m2 : ∃ t, mg "FEED" = some (.int 2 t)) (m5 : ∃ t, mg "SPELL" = some (.int 5 t)) (m6 : ∃ t, mg "ALL" = some (.int 6 t)) : FnOk P w K mg base CX0 (k + 1) f fd ["calls", "place"] (spBehind K) := by
  obtain ⟨t1, m1⟩ := m1
  obtain ⟨t2, m2⟩ := m2
  obtain ⟨t5, m5⟩ := m5
  obtain ⟨t6, m6⟩ := m6
  refine F.ok scBehind (fun vs H Q E h => ?_) (fun cdv A outer s0 H vs Q E hr h => ?_)
  · obtain ⟨a, ns, n, x, rest, rfl, _⟩ := h
    rfl
  · obtain ⟨a, ns, n, x, rest, rfl, hS, hd, q⟩ := h
    refine ⟨_, pss_cons (ps_if (pt_cmpR op_in_seq (pe_ix ix_list (pv 0) (pv 1) (fun _ _ => rfl)) (pe_tup (pa_cons (pe_glob (v := .int 1) rfl m1 ⟨_, rfl⟩) (pa_cons (pe_glob (v := .int 5) rfl m5 ⟨_, rfl⟩) pa_nil))) (by rfl))
        (pss_one (ps_ret (pe_op op_add (pe_op op_add (pv 1) pe_int) (pe_ix ix_list (pv 0) (pe_op op_add (pv 1) pe_int) (fun _ _ => rfl))))) pss_nil)
      (pss_cons (ps_if (pt_cmpR op_in_seq (pe_ix ix_list (pv 0) (pv 1) (fun _ _ => rfl)) (pe_tup (pa_cons (pe_glob (v := .int 2) rfl m2 ⟨_, rfl⟩) (pa_cons (pe_glob (v := .int 6) rfl m6 ⟨_, rfl⟩) pa_nil))) (by rfl))
        (pss_one (ps_ret (pe_op op_add (pe_op op_add (pv 1) pe_int) (pe_ix ix_list (pv 0) (pe_op op_add (pv 1) pe_int) (fun _ _ => rfl))))) pss_nil)
      (pss_one (ps_ret (pe_op op_add (pv 1) pe_int)))), ?_⟩
    -- the number of the call; whether it has a number and a row, a row, nothing
    obtain ⟨z, l, hz⟩ : ∃ z l, flat1 x = z :: l := by cases x <;> exact ⟨_, _, rfl⟩
    have hd0 : ns.drop n = z :: (l ++ rest) := by rw [hd, hz]; rfl
    have a0 := atI_nat (at_drop hd0)
    have one : ∀ (i j : Int), (inV (.int z) [.int i, .int j]) = (i == z || (j == z || false)) := fun i j => rfl
    refine ⟨_, rfl, _, rfl, a, _, _, _, rfl, rfl, hS, a0, by show 2 ≤ sizeLine; decide, fun t nt => ?_⟩
    have s1 : Same H (upd H t (.tup [.int 1, .int 5])) := same_upd nt
    refine ⟨t, _, rfl, .inr (SqT.of upd_same), rfl, rfl, _, rfl, ?_⟩
    rw [if_neg Bool.false_ne_true, one]
    have second : ∀ H1 : Hp, Same H H1 → (z ≠ 1 ∧ z ≠ 5) → tSeq (tIfS (tTest (tOp (rIn K false) (tOp (rIxL K) (tVar 0) (tVar 1)) (tTup (tCons (tC (.int 2)) (tCons (tC (.int 6)) tNil)))))
        (tRet (tOp (rI0 fun i j => .int (i + j)) (tOp (rI0 fun i j => .int (i + j)) (tVar 1) (tC (.int 2))) (tOp (rIxL K) (tVar 0) (tOp (rI0 fun i j => .int (i + j)) (tVar 1) (tC (.int 1)))))) tNext)
        (tRet (tOp (rI0 fun i j => .int (i + j)) (tVar 1) (tC (.int 1)))) { nx := fun _ H' => Q .non H', rt := Q } [some (.ref a), some (.int (n : Int))] H1 := fun H1 s1 hne => by
      refine ⟨_, rfl, _, rfl, a, _, _, _, rfl, rfl, s1.seq hS, a0, by show 2 ≤ sizeLine; decide, fun t nt => ?_⟩
      have s2 : Same H (upd H1 t (.tup [.int 2, .int 6])) := s1.trans (same_upd nt)
      refine ⟨t, _, rfl, .inr (SqT.of upd_same), rfl, rfl, _, rfl, ?_⟩
      rw [if_neg Bool.false_ne_true, one]
      cases x with
      | secret m s => exact absurd (List.cons.inj hz).1.symm hne.1
      | spell m s => exact absurd (List.cons.inj hz).1.symm hne.2
      | feed b =>
        obtain ⟨rfl, rfl⟩ := List.cons.inj hz
        refine iteT ⟨_, rfl, _, _, rfl, rfl, _, rfl, _, rfl, _, _, rfl, rfl, a, _, _, _, rfl, rfl, s2.seq hS, atI_nat (at_drop (n := n + 1) (drop_more (a := [2]) hd0)), _, _, rfl, rfl, ?_⟩
        have := q _ s2
        rw [show ((n + (flat1 (.feed b)).length : Nat) : Int) = (n : Int) + 2 + (b.length : Int) by show ((n + ((zs b).length + 1 + 1) : Nat) : Int) = _; rw [zs_length]; omega] at this
        exact this
      | all b =>
        obtain ⟨rfl, rfl⟩ := List.cons.inj hz
        refine iteT ⟨_, rfl, _, _, rfl, rfl, _, rfl, _, rfl, _, _, rfl, rfl, a, _, _, _, rfl, rfl, s2.seq hS, atI_nat (at_drop (n := n + 1) (drop_more (a := [6]) hd0)), _, _, rfl, rfl, ?_⟩
        have := q _ s2
        rw [show ((n + (flat1 (.all b)).length : Nat) : Int) = (n : Int) + 2 + (b.length : Int) by show ((n + ((zs b).length + 1 + 1) : Nat) : Int) = _; rw [zs_length]; omega] at this
        exact this
      | begins =>
        obtain ⟨rfl, rfl⟩ := List.cons.inj hz
        exact iteF ⟨_, rfl, _, _, rfl, rfl, q _ s2⟩
      | ends =>
        obtain ⟨rfl, rfl⟩ := List.cons.inj hz
        exact iteF ⟨_, rfl, _, _, rfl, rfl, q _ s2⟩
      | held =>
        obtain ⟨rfl, rfl⟩ := List.cons.inj hz
        exact iteF ⟨_, rfl, _, _, rfl, rfl, q _ s2⟩
    cases x with
    | secret m s =>
      obtain ⟨rfl, rfl⟩ := List.cons.inj hz
      refine iteT ⟨_, rfl, _, _, rfl, rfl, _, rfl, _, rfl, _, _, rfl, rfl, a, _, _, _, rfl, rfl, s1.seq hS, atI_nat (at_drop (n := n + 2) (drop_more (a := [1, (m : Int)]) hd0)), _, _, rfl, rfl, ?_⟩
      have := q _ s1
      rw [show ((n + (flat1 (.secret m s)).length : Nat) : Int) = (n : Int) + 3 + (s.length : Int) by show ((n + ((zs s).length + 1 + 1 + 1) : Nat) : Int) = _; rw [zs_length]; omega] at this
      exact this
    | spell m s =>
      obtain ⟨rfl, rfl⟩ := List.cons.inj hz
      refine iteT ⟨_, rfl, _, _, rfl, rfl, _, rfl, _, rfl, _, _, rfl, rfl, a, _, _, _, rfl, rfl, s1.seq hS, atI_nat (at_drop (n := n + 2) (drop_more (a := [5, (m : Int)]) hd0)), _, _, rfl, rfl, ?_⟩
      have := q _ s1
      rw [show ((n + (flat1 (.spell m s)).length : Nat) : Int) = (n : Int) + 3 + (s.length : Int) by show ((n + ((zs s).length + 1 + 1 + 1) : Nat) : Int) = _; rw [zs_length]; omega] at this
      exact this
    | feed b =>
      obtain ⟨rfl, rfl⟩ := List.cons.inj hz
      exact iteF (second _ s1 ⟨by decide, by decide⟩)
    | all b =>
      obtain ⟨rfl, rfl⟩ := List.cons.inj hz
      exact iteF (second _ s1 ⟨by decide, by decide⟩)
    | begins =>
      obtain ⟨rfl, rfl⟩ := List.cons.inj hz
      exact iteF (second _ s1 ⟨by decide, by decide⟩)
    | ends =>
      obtain ⟨rfl, rfl⟩ := List.cons.inj hz
      exact iteF (second _ s1 ⟨by decide, by decide⟩)
    | held =>
      obtain ⟨rfl, rfl⟩ := List.cons.inj hz
      exact iteF (second _ s1 ⟨by decide, by decide⟩)
theorem ok_at {f : Addr} {fd : FuncData} (F : Fun K "answer_at" "answer_at" sAt f fd) (T : Txt K C)
    (m0 : ∃ t, mg "BEGINS" = some (.int 0 t)) (m1 : ∃ t, mg "SECRET" = some (.int 1 t)) (m2 : ∃ t, mg "FEED" = some (.int 2 t)) (m3 : ∃ t, mg "ENDS" = some (.int 3 t)) (m4 : ∃ t, mg "HELD" = some (.int 4 t)) (m5 : ∃ t, mg "SPELL" = some (.int 5 t)) (m6 : ∃ t, mg "ALL" = some (.int 6 t))
    (D1 : Df P w K mg base 1 "row_at" ["calls", "place"] (spRow K))
    (M0 : Mt P w K mg base C 2 "begins" ["self"] (spBegins C)) (M1 : Mt P w K mg base C 4 "secret" ["self", "which", "row"] (spSecret K C)) (M2 : Mt P w K mg base C 4 "feed" ["self", "piece"] (spFeed C)) (M3 : Mt P w K mg base C 2 "ends" ["self"] (spEnds C))
    (M4 : Mt P w K mg base C 1 "held" ["self"] (spHeld C)) (M5 : Mt P w K mg base C 4 "spell" ["self", "which", "row"] (spSpellM K C)) (M6 : Mt P w K mg base C 2 "whole" ["self", "text"] (spAll K C)) :
    FnOk P w K mg base CX0 5 f fd ["house", "calls", "place"] (spAt K C) := by
  obtain ⟨t0, m0⟩ := m0
  obtain ⟨t1, m1⟩ := m1
  obtain ⟨t2, m2⟩ := m2
  obtain ⟨t3, m3⟩ := m3
  obtain ⟨t4, m4⟩ := m4
  obtain ⟨t5, m5⟩ := m5
  obtain ⟨t6, m6⟩ := m6
  obtain ⟨fr, fdr, gr, kr, br, GR⟩ := D1.ex
  obtain ⟨f0, fd0, mm0, b0, G0⟩ := M0.ex
  obtain ⟨f1, fd1, mm1, b1, G1⟩ := M1.ex
  obtain ⟨f2, fd2, mm2, b2, G2⟩ := M2.ex
  obtain ⟨f3, fd3, mm3, b3, G3⟩ := M3.ex
  obtain ⟨f4, fd4, mm4, b4, G4⟩ := M4.ex
  obtain ⟨f5, fd5, mm5, b5, G5⟩ := M5.ex
  obtain ⟨f6, fd6, mm6, b6, G6⟩ := M6.ex
  refine F.ok scAt (fun vs H Q E h => ?_) (fun cdv A outer s0 H vs Q E hr h => ?_)
  · obtain ⟨p, a, sp, tx, as, h, ns, n, x, rest, rfl, _⟩ := h
    rfl
  · obtain ⟨p, a, sp, tx, as, h, ns, n, x, rest, rfl, hA, hG, hS, hd, hF, q⟩ := h
    have hr1 := hr.mono (show 1 ≤ 4 by decide)
    have hr2 := hr.mono (show 2 ≤ 4 by decide)
    refine ⟨_, pss_cons (ps_set (i := 3) scAt.nd rfl (.inl rfl) (pe_ix ix_list (pv 1) (pv 2) (fun _ _ => rfl)))
      (pss_cons (ps_if (pt_cmpR op_eq (pv 3) (pe_glob (v := .int 0) rfl m0 ⟨_, rfl⟩) (nomark _)) (pss_one (ps_ret (pe_meth0 (pv 0) T.cl mm0 G0 hr2 b0 .nil pass0))) pss_nil)
      (pss_cons (ps_if (pt_cmpR op_eq (pv 3) (pe_glob (v := .int 1) rfl m1 ⟨_, rfl⟩) (nomark _)) (pss_one (ps_ret (pe_meth (pv 0) T.cl mm1 G1 hr b1 .nil pass0 (pa_cons (pe_ix ix_list (pv 1) (pe_op op_add (pv 2) pe_int) (fun _ _ => rfl)) (pa_cons (pe_call GR hr1 rfl gr kr br .nil pass0 (pa_cons (pv 1) (pa_cons (pe_op op_add (pv 2) pe_int) pa_nil))) pa_nil))))) pss_nil)
      (pss_cons (ps_if (pt_cmpR op_eq (pv 3) (pe_glob (v := .int 2) rfl m2 ⟨_, rfl⟩) (nomark _)) (pss_one (ps_ret (pe_meth (pv 0) T.cl mm2 G2 hr b2 .nil pass0 (pa_cons (pe_call GR hr1 rfl gr kr br .nil pass0 (pa_cons (pv 1) (pa_cons (pe_op op_add (pv 2) pe_int) pa_nil))) pa_nil)))) pss_nil)
      (pss_cons (ps_if (pt_cmpR op_eq (pv 3) (pe_glob (v := .int 3) rfl m3 ⟨_, rfl⟩) (nomark _)) (pss_one (ps_ret (pe_meth0 (pv 0) T.cl mm3 G3 hr2 b3 .nil pass0))) pss_nil)
      (pss_cons (ps_if (pt_cmpR op_eq (pv 3) (pe_glob (v := .int 4) rfl m4 ⟨_, rfl⟩) (nomark _)) (pss_one (ps_ret (pe_meth0 (pv 0) T.cl mm4 G4 hr1 b4 .nil pass0))) pss_nil)
      (pss_cons (ps_if (pt_cmpR op_eq (pv 3) (pe_glob (v := .int 5) rfl m5 ⟨_, rfl⟩) (nomark _)) (pss_one (ps_ret (pe_meth (pv 0) T.cl mm5 G5 hr b5 .nil pass0 (pa_cons (pe_ix ix_list (pv 1) (pe_op op_add (pv 2) pe_int) (fun _ _ => rfl)) (pa_cons (pe_call GR hr1 rfl gr kr br .nil pass0 (pa_cons (pv 1) (pa_cons (pe_op op_add (pv 2) pe_int) pa_nil))) pa_nil))))) pss_nil)
      (pss_cons (ps_if (pt_cmpR op_eq (pv 3) (pe_glob (v := .int 6) rfl m6 ⟨_, rfl⟩) (nomark _)) (pss_one (ps_ret (pe_meth (pv 0) T.cl mm6 G6 hr2 b6 .nil pass0 (pa_cons (pe_call GR hr1 rfl gr kr br .nil pass0 (pa_cons (pv 1) (pa_cons (pe_op op_add (pv 2) pe_int) pa_nil))) pa_nil)))) pss_nil)
      (pss_one ps_never)))))))), ?_⟩
    obtain ⟨dx, hp⟩ := hA.obj
    obtain ⟨z, l, hz⟩ : ∃ z l, flat1 x = z :: l := by cases x <;> exact ⟨_, _, rfl⟩
    have hd0 : ns.drop n = z :: (l ++ rest) := by rw [hd, hz]; rfl
    refine ⟨_, rfl, _, rfl, a, _, _, _, rfl, rfl, hS, atI_nat (at_drop hd0), ?_⟩
    cases x with
    | begins =>
      obtain ⟨rfl, rfl⟩ := List.cons.inj hz
      refine ⟨_, rfl, rfl, _, rfl, yes_int ⟨_, rfl, p, dx, _, rfl, hp, lk_none (by decide +kernel) (by decide +kernel) (by decide +kernel) (by decide +kernel), p, dx, _, rfl, hp, .inr ⟨_, _, _, _, rfl⟩, fun H' sp' tx' r hA' k n1 n2 n3 hr => ?_⟩⟩
      refine q H' sp' tx' [] r hA' (Fr.of (fun b o e hb => k b o e fun z => hb (by rw [z]; exact List.mem_cons_self)) fun b hb => ?_) n3 hr
      simp only [List.mem_cons, List.not_mem_nil, or_false] at hb
      rcases hb with rfl | rfl | rfl
      · exact .inl List.mem_cons_self
      · exact .inr n1
      · exact .inr n2
    | secret m s =>
      obtain ⟨rfl, rfl⟩ := List.cons.inj hz
      refine ⟨_, rfl, rfl, _, rfl, no_int (by decide) ⟨_, rfl, rfl, _, rfl, yes_int ?_⟩⟩
      refine ⟨_, rfl, p, dx, _, rfl, hp, lk_none (by decide +kernel) (by decide +kernel) (by decide +kernel) (by decide +kernel), _, rfl, _, rfl, _, _, rfl, rfl, a, _, _, _, rfl, rfl, hS, atI_nat (at_drop (n := n + 1) (drop_more (a := [1]) hd0)),
        _, rfl, _, rfl, _, _, rfl, rfl, a, ns, n + 2, s, rest, rfl, hS, drop_more (a := [1, (m : Int)]) hd0, fun H1 c s1 nc hc => ?_⟩
      exact ⟨p, c, sp, tx, as, h, m, s, rfl, hA.same s1, hG, SqL.of hc, hF.2.2, hF.2.1, q.mono s1⟩
    | feed b =>
      obtain ⟨rfl, rfl⟩ := List.cons.inj hz
      refine ⟨_, rfl, rfl, _, rfl, no_int (by decide) ⟨_, rfl, rfl, _, rfl, no_int (by decide) ⟨_, rfl, rfl, _, rfl, yes_int ?_⟩⟩⟩
      refine ⟨_, rfl, p, dx, _, rfl, hp, lk_none (by decide +kernel) (by decide +kernel) (by decide +kernel) (by decide +kernel), _, rfl, _, rfl, _, _, rfl, rfl, a, ns, n + 1, b, rest, rfl, hS, drop_more (a := [2]) hd0, fun H1 c s1 nc hc => ?_⟩
      exact ⟨p, c, sp, tx, as, h, b, rfl, hA.same s1, hG, hc, hF.1, q.mono s1⟩
    | ends =>
      obtain ⟨rfl, rfl⟩ := List.cons.inj hz
      refine ⟨_, rfl, rfl, _, rfl, no_int (by decide) ⟨_, rfl, rfl, _, rfl, no_int (by decide) ⟨_, rfl, rfl, _, rfl, no_int (by decide) ⟨_, rfl, rfl, _, rfl, yes_int ?_⟩⟩⟩⟩
      exact ⟨_, rfl, p, dx, _, rfl, hp, lk_none (by decide +kernel) (by decide +kernel) (by decide +kernel) (by decide +kernel), p, sp, tx, as, h, rfl, hA, hG, q⟩
    | held =>
      obtain ⟨rfl, rfl⟩ := List.cons.inj hz
      refine ⟨_, rfl, rfl, _, rfl, no_int (by decide) ⟨_, rfl, rfl, _, rfl, no_int (by decide) ⟨_, rfl, rfl, _, rfl, no_int (by decide) ⟨_, rfl, rfl, _, rfl, no_int (by decide) ⟨_, rfl, rfl, _, rfl, yes_int ?_⟩⟩⟩⟩⟩
      exact ⟨_, rfl, p, dx, _, rfl, hp, lk_none (by decide +kernel) (by decide +kernel) (by decide +kernel) (by decide +kernel), p, sp, tx, as, h, rfl, hA, hG, q⟩
    | spell m s =>
      obtain ⟨rfl, rfl⟩ := List.cons.inj hz
      refine ⟨_, rfl, rfl, _, rfl, no_int (by decide) ⟨_, rfl, rfl, _, rfl, no_int (by decide) ⟨_, rfl, rfl, _, rfl, no_int (by decide) ⟨_, rfl, rfl, _, rfl, no_int (by decide) ⟨_, rfl, rfl, _, rfl, no_int (by decide) ⟨_, rfl, rfl, _, rfl, yes_int ?_⟩⟩⟩⟩⟩⟩
      refine ⟨_, rfl, p, dx, _, rfl, hp, lk_none (by decide +kernel) (by decide +kernel) (by decide +kernel) (by decide +kernel), _, rfl, _, rfl, _, _, rfl, rfl, a, _, _, _, rfl, rfl, hS, atI_nat (at_drop (n := n + 1) (drop_more (a := [5]) hd0)),
        _, rfl, _, rfl, _, _, rfl, rfl, a, ns, n + 2, s, rest, rfl, hS, drop_more (a := [5, (m : Int)]) hd0, fun H1 c s1 nc hc => ?_⟩
      exact ⟨p, c, sp, tx, as, h, m, s, rfl, hA.same s1, hG, SqL.of hc, hF.2.2, hF.2.1, q.mono s1⟩
    | all b =>
      obtain ⟨rfl, rfl⟩ := List.cons.inj hz
      refine ⟨_, rfl, rfl, _, rfl, no_int (by decide) ⟨_, rfl, rfl, _, rfl, no_int (by decide) ⟨_, rfl, rfl, _, rfl, no_int (by decide) ⟨_, rfl, rfl, _, rfl, no_int (by decide) ⟨_, rfl, rfl, _, rfl, no_int (by decide) ⟨_, rfl, rfl, _, rfl, no_int (by decide) ⟨_, rfl, rfl, _, rfl, yes_int ?_⟩⟩⟩⟩⟩⟩⟩
      refine ⟨_, rfl, p, dx, _, rfl, hp, lk_none (by decide +kernel) (by decide +kernel) (by decide +kernel) (by decide +kernel), _, rfl, _, rfl, _, _, rfl, rfl, a, ns, n + 1, b, rest, rfl, hS, drop_more (a := [6]) hd0, fun H1 c s1 nc hc => ?_⟩
      exact ⟨p, c, sp, tx, as, h, b, rfl, hA.same s1, hG, SqL.of hc, hF.1, q.mono s1⟩
end
end Sc

namespace Sc
open PySem PySem.Spec PyProof.Rows L2
open Rp10 (Bytes)
abbrev sAnswers : Stmt := top 33
theorem scAnswers : FnScope ["calls", "house", "given", "place", "answer"] ["calls"] (defScope sAnswers) := ⟨rfl, rfl, rfl, by decide +kernel, rfl, by decide +kernel, by decide +kernel⟩
def spAnswers (K : PySem.W.Frag) : Sp := fun vs H Q _ => ∃ (a : Addr) (xs : List Rp10.Call), vs = [.ref a] ∧ SqL K H a (jv (flat xs)) ∧ (∀ x ∈ xs, Fit x) ∧ (tell Rp10.init xs).length ≤ 10000000 ∧
  ∀ (H' : Hp) (p : Addr), H' p = some (.lst (jv (tell Rp10.init xs))) → Q (.ref p) H'
theorem flat_append (a b : List Rp10.Call) : flat (a ++ b) = flat a ++ flat b := List.flatMap_append
theorem flat_cons (x : Rp10.Call) (b : List Rp10.Call) : flat (x :: b) = flat1 x ++ flat b := List.flatMap_cons
theorem flat1_pos (x : Rp10.Call) : 0 < (flat1 x).length := by cases x <;> exact Nat.succ_pos _
/-- behind some of the calls -/
structure Mid (C : Addr) (H : Hp) (a p g : Addr) (xs : List Rp10.Call) (m : Nat) (σ : L2.St) (H' : Hp) : Prop where
  ex : ∃ (v : Option V) (done rest : List Rp10.Call) (h : Rp10.House) (sp tx : Addr) (as : List Addr) (out : List Int), m = rest.length ∧ xs = done ++ rest ∧
    σ = [some (.ref a), some (.ref p), some (.ref g), some (.int ((flat done).length : Nat)), v] ∧ Same H H' ∧ (∀ b o, H b = some o → b ∉ p :: sp :: tx :: as) ∧ HouseAt C H' p sp tx as h ∧ Good h ∧
    H' g = some (.lst (jv out)) ∧ g ∉ p :: sp :: tx :: as ∧ out ++ tell h rest = tell Rp10.init xs
theorem out_jv (r : Rp10.Ans) : (Rp10Neutral.out r).map V.int = jv (Rp10Neutral.out r) := rfl
section
variable {P : Program} {w : World} {K : PySem.W.Frag} {mg : Str → Option Value} {base : Heap} {C : Addr}
theorem ok_answers {f fI : Addr} {fd fdI : FuncData} (F : Fun K "answers" "answers" sAnswers f fd) (ml : mg "len" = none) (mC : mg "House" = some (.ref C)) (M : Mk K C fI) (bI : Binds K fdI ["self"] []) (GI : FnOk P w K mg base CX0 3 fI fdI ["self"] (spInit C))
    (D1 : Df P w K mg base 5 "answer_at" ["house", "calls", "place"] (spAt K C)) (D2 : Df P w K mg base 1 "place_behind" ["calls", "place"] (spBehind K)) :
    FnOk P w K mg base CX0 6 f fd ["calls"] (spAnswers K) := by
  obtain ⟨f1, fd1, g1, k1, b1, G1⟩ := D1.ex
  obtain ⟨f2, fd2, g2, k2, b2, G2⟩ := D2.ex
  refine F.ok scAnswers (fun vs H Q E h => ?_) (fun cdv A outer s0 H vs Q E hr h => ?_)
  · obtain ⟨a, xs, rfl, _⟩ := h
    rfl
  · obtain ⟨a, xs, rfl, hS, hF, hlen, q⟩ := h
    have hr1 := hr.mono (show 1 ≤ 5 by decide)
    have hr4 := hr.mono (show 4 ≤ 5 by decide)
    refine ⟨_, pss_cons (ps_set (i := 1) scAnswers.nd rfl (.inl rfl) (pe_make0 M GI hr4 rfl mC bI .nil pass0))
      (pss_cons (ps_set (i := 2) scAnswers.nd rfl (.inl rfl) (pe_lst pa_nil))
      (pss_cons (ps_set (i := 3) scAnswers.nd rfl (.inl rfl) pe_int)
      (pss_cons (ps_while PassesOwn.never (pt_cmpR op_lt (pv 3) (pe_callB call_len_seq (by rfl) ml PySem.boot_len (pa_cons (pv 0) pa_nil)) (nomark _))
        (pss_cons (ps_set (i := 4) scAnswers.nd rfl (.inl rfl) (pe_call G1 hr rfl g1 k1 b1 .nil pass0 (pa_cons (pv 1) (pa_cons (pv 0) (pa_cons (pv 3) pa_nil)))))
        (pss_cons (ps_expr (pe_bm PySem.F.plainAttrs_list PySem.F.slot_list_append PySem.F.type_list_append mt_append (pv 2) (pa_cons (pe_callB call_len_seq (by rfl) ml PySem.boot_len (pa_cons (pv 4) pa_nil)) pa_nil)))
        (pss_cons (ps_expr (pe_bm PySem.F.plainAttrs_list PySem.F.slot_list_extend PySem.F.type_list_extend mt_extend (pv 2) (pa_cons (pv 4) pa_nil)))
        (pss_one (ps_set (i := 3) scAnswers.nd rfl (.inl rfl) (pe_call G2 hr1 rfl g2 k2 b2 .nil pass0 (pa_cons (pv 0) (pa_cons (pv 3) pa_nil)))))))))
      (pss_one (ps_ret (pv 2)))))), ?_⟩
    -- house = House()
    intro p dx np nd ne
    refine ⟨p, dx, rfl, upd_same, fun H1 sp tx hA k n1 n2 => ⟨rfl, ?_⟩⟩
    have s1 : Same H H1 := Same.made np nd k
    have lv : Live H (upd (upd H dx (.own p)) p (.ins C dx [])) := Live.put.trans Live.put
    -- given = []; place = 0
    refine ⟨Nat.zero_le _, fun g ng => ?_⟩
    have ngH : H g = none := s1.free ng
    have start : Mid C H a p g xs xs.length [some (.ref a), some (.ref p), some (.ref g), some (.int 0), none] (upd H1 g (.lst [])) := by
      refine ⟨none, [], xs, Rp10.init, sp, tx, [], [], rfl, rfl, rfl, s1.trans (same_upd ng), fun b o e hb => ?_, hA.same (same_upd ng), Good.init, upd_same, fun hb => ?_, rfl⟩
      · simp only [List.mem_cons, List.not_mem_nil, or_false] at hb
        rcases hb with rfl | rfl | rfl
        · rw [np] at e; cases e
        · rw [lv.free n1] at e; cases e
        · rw [lv.free n2] at e; cases e
      · simp only [List.mem_cons, List.not_mem_nil, or_false] at hb
        obtain ⟨dx', hp'⟩ := hA.obj
        rcases hb with rfl | rfl | rfl
        · rw [hp'] at ng; cases ng
        · rw [hA.hsp] at ng; cases ng
        · rw [hA.htx] at ng; cases ng
    refine ⟨Mid C H a p g xs, ⟨xs.length, start⟩, ?_⟩
    rintro m σ H2 ⟨v, done, rest, h, sp, tx, as, out, rfl, ex, rfl, s2, hout, hA2, hG, hg, hgn, het⟩
    refine ⟨_, rfl, _, rfl, a, _, rfl, .inl (s2.seq hS), _, _, rfl, rfl, _, rfl, ?_⟩
    rw [jv_length]
    have efl : flat xs = flat done ++ flat rest := by rw [ex, flat_append]
    have hol : out.length + (tell h rest).length ≤ 10000000 := by
      rw [← List.length_append, het]
      exact hlen
    cases rest with
    | nil =>
      rw [decide_eq_false (show ¬ (((flat done).length : Nat) : Int) < ((flat xs).length : Nat) by rw [efl, List.length_append]; show ¬ _ < (((flat done).length + 0 : Nat) : Int); omega)]
      refine iteF ⟨_, rfl, q H2 g ?_⟩
      rw [hg, ← het]
      show _ = some (HO.lst (jv (out ++ [])))
      rw [List.append_nil]
    | cons x rest =>
      have hx : Fit x := hF x (by rw [ex]; exact List.mem_append_right _ List.mem_cons_self)
      have hpos := flat1_pos x
      have hdrop : (flat xs).drop (flat done).length = flat1 x ++ flat rest := by
        rw [efl, List.drop_left, flat_cons]
      rw [decide_eq_true (show (((flat done).length : Nat) : Int) < ((flat xs).length : Nat) by rw [efl, flat_cons, List.length_append, List.length_append]; omega)]
      refine iteT ⟨Mid C H a p g xs rest.length, fun σ' H' h' => ⟨rest.length, Nat.lt_succ_self _, h'⟩, ?_⟩
      -- answer = answer_at(house, calls, place)
      refine ⟨_, rfl, _, rfl, _, rfl, p, a, sp, tx, as, h, flat xs, (flat done).length, x, flat rest, rfl, hA2, hG, s2.seq hS, hdrop, hx, fun H3 sp' tx' as' r hA3 fr nr hr3 => ?_⟩
      rw [out_jv] at hr3
      have het' : tell h (x :: rest) = ((Rp10Neutral.out (Rp10.step h x).2).length : Int) :: (Rp10Neutral.out (Rp10.step h x).2 ++ tell (Rp10.step h x).1 rest) := rfl
      generalize hans : Rp10Neutral.out (Rp10.step h x).2 = ans at hr3 het'
      obtain ⟨hg3, hgn3⟩ := fr g _ hg hgn
      have s3 : Same H H3 := fun b o e => (fr b o (s2 b o e) (hout b o e)).1
      have hout3 : ∀ b o, H b = some o → b ∉ p :: sp' :: tx' :: as' := fun b o e => (fr b o (s2 b o e) (hout b o e)).2
      have nrg : r ≠ g := fun e => by
        subst e
        rw [hg] at nr
        cases nr
      rw [het', List.length_cons, List.length_append] at hol
      -- given.append(len(answer))
      refine ⟨_, rfl, .inl ⟨rfl, _, SqL.of hg3⟩, _, rfl, r, _, rfl, .inl (SqL.of hr3), g, _, _, rfl, rfl, hg3, ?_, ?_⟩
      · rw [jv_length]
        exact sizes_lt (by omega)
      rw [jv_length]
      -- given.extend(answer)
      refine ⟨_, rfl, .inl ⟨rfl, _, SqL.of upd_same⟩, _, rfl, g, r, _, jv ans, rfl, rfl, upd_same, ?_, ?_, ?_⟩
      · rw [upd_ne nrg]
        exact hr3
      · rw [List.length_append, jv_length, jv_length]
        exact sizes (by show out.length + 1 + ans.length ≤ 16777216; omega)
      have s5 : Same H (upd (upd H3 g (.lst (jv out ++ [.int (ans.length : Int)]))) g (.lst (jv out ++ [.int (ans.length : Int)] ++ jv ans))) := same_on ngH (same_on ngH s3)
      -- place = place_behind(calls, place)
      refine ⟨_, rfl, _, rfl, a, flat xs, (flat done).length, x, flat rest, rfl, s5.seq hS, hdrop, fun H6 s6 => ?_⟩
      refine ⟨some (.ref r), done ++ [x], rest, (Rp10.step h x).1, sp', tx', as', out ++ ((ans.length : Int) :: ans), rfl, ?_, ?_, s5.trans s6, hout3, ?_, hG.step x, ?_, hgn3, ?_⟩
      · rw [ex, List.append_assoc]
        rfl
      · have e : flat (done ++ [x]) = flat done ++ flat1 x := by
          rw [flat_append, flat_cons]
          show flat done ++ (flat1 x ++ []) = _
          rw [List.append_nil]
        rw [e, List.length_append]
        rfl
      · refine HouseAt.same ?_ s6
        obtain ⟨dx3, hp3⟩ := hA3.obj
        simp only [List.mem_cons, not_or] at hgn3
        rw [upd_upd]
        exact ⟨⟨dx3, by rw [upd_ne (Ne.symm hgn3.1)]; exact hp3⟩, by rw [upd_ne (Ne.symm hgn3.2.1)]; exact hA3.hsp, hA3.rows.upd hgn3.2.2.2, by rw [upd_ne (Ne.symm hgn3.2.2.1)]; exact hA3.htx, hA3.n1, hA3.n2, hA3.n3⟩
      · refine (s6 _ _ upd_same).trans ?_
        rw [jv_append, List.append_assoc]
        rfl
      · rw [List.append_assoc, ← het, het']
        rfl
end
end Sc

namespace Sc
open PySem PySem.Spec PyProof.Rows L2
open PySem.W (Codec)
/-! The end: what the top has written, every address a letter. -/
theorem Df.mk' {P : Program} {w : World} {K : PySem.W.Frag} {mg : Str → Option Value} {base : Heap} {k : Nat} {x qual : Str} {st : Stmt} {ps : List Str} {sp : Sp} {f : Addr} {fd : FuncData} (e : mg x = some (.ref f)) (F : Fun K x qual st f fd) (b : Binds K fd ps [])
    (G : FnOk P w K mg base CX0 k f fd ps sp) : Df P w K mg base k x ps sp := ⟨f, fd, e, F.kp, b, G⟩
theorem Mt.mk' {P : Program} {w : World} {K : PySem.W.Frag} {mg : Str → Option Value} {base : Heap} {C : Addr} {k : Nat} {x : Str} {ps : List Str} {sp : Sp} {f : Addr} {fd : FuncData} (m : Meth K C x f) (b : Binds K fd ps [])
    (G : FnOk P w K mg base CX0 k f fd ps sp) : Mt P w K mg base C k x ps sp := ⟨f, fd, m, b, G⟩
def zSmall : Str := "0123456789abcdef"
def zLarge : Str := "0123456789ABCDEF"
def zSix : Str := "ABCDEFGHIJKLMNOPQRSTUVWXYZabcdefghijklmnopqrstuvwxyz0123456789+/"
theorem small_ok : Digits zSmall false := ⟨by decide +kernel, by decide +kernel⟩
theorem large_ok : Digits zLarge true := ⟨by decide +kernel, by decide +kernel⟩
theorem signs_ok : Signs zSix := ⟨by decide +kernel, by decide +kernel⟩
theorem all_mk {P : Program} {w : World} {K : PySem.W.Frag} {h : Heap} {mg : Str → Option Value} {fa C f_is_secret f_may_be_spelled f_in_sixteens f_bits_of f_sixes_of f_inner_rows f_spellings_of f_covered_places f_begins_longer f_first_begun f_first_unsettled f_shown_between f_row_at f_answer_at f_place_behind f_answers f___init__ f_begins f_begin_text f_secret f_feed f_ends f_held f_spell f_whole : Addr} (X : K.In h) (G : h.Ns mainGlobals mg) (hfa : mg "answers" = some (.ref fa))
    {od_is_secret an_is_secret od_may_be_spelled an_may_be_spelled od_in_sixteens an_in_sixteens od_bits_of an_bits_of od_sixes_of an_sixes_of od_inner_rows an_inner_rows od_spellings_of an_spellings_of od_covered_places an_covered_places od_begins_longer an_begins_longer od_first_begun an_first_begun od_first_unsettled an_first_unsettled od_shown_between an_shown_between od_row_at an_row_at od_answer_at an_answer_at od_place_behind an_place_behind od_answers an_answers od___init__ an___init__ od_begins an_begins od_begin_text an_begin_text od_secret an_secret od_feed an_feed od_ends an_ends od_held an_held od_spell an_spell od_whole an_whole : Option Addr} {sl_is_secret sl_may_be_spelled sl_in_sixteens sl_bits_of sl_sixes_of sl_inner_rows sl_spellings_of sl_covered_places sl_begins_longer sl_first_begun sl_first_unsettled sl_shown_between sl_row_at sl_answer_at sl_place_behind sl_answers sl___init__ sl_begins sl_begin_text sl_secret sl_feed sl_ends sl_held sl_spell sl_whole : Array (Option Value)}
    {oc_is_secret kV_is_secret dc_is_secret pm_is_secret cd_is_secret ct_is_secret oc_may_be_spelled kV_may_be_spelled dc_may_be_spelled pm_may_be_spelled cd_may_be_spelled ct_may_be_spelled oc_in_sixteens kV_in_sixteens dc_in_sixteens pm_in_sixteens cd_in_sixteens ct_in_sixteens oc_bits_of kV_bits_of dc_bits_of pm_bits_of cd_bits_of ct_bits_of oc_sixes_of kV_sixes_of dc_sixes_of pm_sixes_of cd_sixes_of ct_sixes_of oc_inner_rows kV_inner_rows dc_inner_rows pm_inner_rows cd_inner_rows ct_inner_rows oc_spellings_of kV_spellings_of dc_spellings_of pm_spellings_of cd_spellings_of ct_spellings_of oc_covered_places kV_covered_places dc_covered_places pm_covered_places cd_covered_places ct_covered_places oc_begins_longer kV_begins_longer dc_begins_longer pm_begins_longer cd_begins_longer ct_begins_longer oc_first_begun kV_first_begun dc_first_begun pm_first_begun cd_first_begun ct_first_begun oc_first_unsettled kV_first_unsettled dc_first_unsettled pm_first_unsettled cd_first_unsettled ct_first_unsettled oc_shown_between kV_shown_between dc_shown_between pm_shown_between cd_shown_between ct_shown_between oc_row_at kV_row_at dc_row_at pm_row_at cd_row_at ct_row_at oc_answer_at kV_answer_at dc_answer_at pm_answer_at cd_answer_at ct_answer_at oc_place_behind kV_place_behind dc_place_behind pm_place_behind cd_place_behind ct_place_behind oc_answers kV_answers dc_answers pm_answers cd_answers ct_answers oc___init__ kV___init__ dc___init__ pm___init__ cd___init__ ct___init__ oc_begins kV_begins dc_begins pm_begins cd_begins ct_begins oc_begin_text kV_begin_text dc_begin_text pm_begin_text cd_begin_text ct_begin_text oc_secret kV_secret dc_secret pm_secret cd_secret ct_secret oc_feed kV_feed dc_feed pm_feed cd_feed ct_feed oc_ends kV_ends dc_ends pm_ends cd_ends ct_ends oc_held kV_held dc_held pm_held cd_held ct_held oc_spell kV_spell dc_spell pm_spell cd_spell ct_spell oc_whole kV_whole dc_whole pm_whole cd_whole ct_whole : Value}
    {t_BEGINS t_SECRET t_FEED t_ENDS t_HELD t_SPELL t_ALL t_STAR t_MOST_SECRETS t_MOST_SECRET_BYTES t_MOST_TEXT_BYTES t_LEAST_INNER_SIGNS t_SMALL_SIXTEENS t_LARGE_SIXTEENS t_SIX_SIGNS : Tok}
    (a_is_secret : PySem.W.nsIn K mainGlobals "is_secret" = some (some (.ref f_is_secret)))
    (l_is_secret : K.lookup f_is_secret = some ⟨oc_is_secret, od_is_secret, .func (PySem.W.fnOf "is_secret" "is_secret" (defArgs sIsSec) (defBody sIsSec) (defScope sIsSec) .none kV_is_secret dc_is_secret pm_is_secret an_is_secret cd_is_secret ct_is_secret), sl_is_secret⟩)
    (c_is_secret : PySem.W.codeIn K cd_is_secret "is_secret" = true)
    (k_is_secret : PySem.W.keepIn K (.ref f_is_secret) = true)
    (a_may_be_spelled : PySem.W.nsIn K mainGlobals "may_be_spelled" = some (some (.ref f_may_be_spelled)))
    (l_may_be_spelled : K.lookup f_may_be_spelled = some ⟨oc_may_be_spelled, od_may_be_spelled, .func (PySem.W.fnOf "may_be_spelled" "may_be_spelled" (defArgs sMay) (defBody sMay) (defScope sMay) .none kV_may_be_spelled dc_may_be_spelled pm_may_be_spelled an_may_be_spelled cd_may_be_spelled ct_may_be_spelled), sl_may_be_spelled⟩)
    (c_may_be_spelled : PySem.W.codeIn K cd_may_be_spelled "may_be_spelled" = true)
    (k_may_be_spelled : PySem.W.keepIn K (.ref f_may_be_spelled) = true)
    (a_in_sixteens : PySem.W.nsIn K mainGlobals "in_sixteens" = some (some (.ref f_in_sixteens)))
    (l_in_sixteens : K.lookup f_in_sixteens = some ⟨oc_in_sixteens, od_in_sixteens, .func (PySem.W.fnOf "in_sixteens" "in_sixteens" (defArgs sHex) (defBody sHex) (defScope sHex) .none kV_in_sixteens dc_in_sixteens pm_in_sixteens an_in_sixteens cd_in_sixteens ct_in_sixteens), sl_in_sixteens⟩)
    (c_in_sixteens : PySem.W.codeIn K cd_in_sixteens "in_sixteens" = true)
    (k_in_sixteens : PySem.W.keepIn K (.ref f_in_sixteens) = true)
    (a_bits_of : PySem.W.nsIn K mainGlobals "bits_of" = some (some (.ref f_bits_of)))
    (l_bits_of : K.lookup f_bits_of = some ⟨oc_bits_of, od_bits_of, .func (PySem.W.fnOf "bits_of" "bits_of" (defArgs sBits) (defBody sBits) (defScope sBits) .none kV_bits_of dc_bits_of pm_bits_of an_bits_of cd_bits_of ct_bits_of), sl_bits_of⟩)
    (c_bits_of : PySem.W.codeIn K cd_bits_of "bits_of" = true)
    (k_bits_of : PySem.W.keepIn K (.ref f_bits_of) = true)
    (a_sixes_of : PySem.W.nsIn K mainGlobals "sixes_of" = some (some (.ref f_sixes_of)))
    (l_sixes_of : K.lookup f_sixes_of = some ⟨oc_sixes_of, od_sixes_of, .func (PySem.W.fnOf "sixes_of" "sixes_of" (defArgs sSixes) (defBody sSixes) (defScope sSixes) .none kV_sixes_of dc_sixes_of pm_sixes_of an_sixes_of cd_sixes_of ct_sixes_of), sl_sixes_of⟩)
    (c_sixes_of : PySem.W.codeIn K cd_sixes_of "sixes_of" = true)
    (k_sixes_of : PySem.W.keepIn K (.ref f_sixes_of) = true)
    (a_inner_rows : PySem.W.nsIn K mainGlobals "inner_rows" = some (some (.ref f_inner_rows)))
    (l_inner_rows : K.lookup f_inner_rows = some ⟨oc_inner_rows, od_inner_rows, .func (PySem.W.fnOf "inner_rows" "inner_rows" (defArgs sInner) (defBody sInner) (defScope sInner) .none kV_inner_rows dc_inner_rows pm_inner_rows an_inner_rows cd_inner_rows ct_inner_rows), sl_inner_rows⟩)
    (c_inner_rows : PySem.W.codeIn K cd_inner_rows "inner_rows" = true)
    (k_inner_rows : PySem.W.keepIn K (.ref f_inner_rows) = true)
    (a_spellings_of : PySem.W.nsIn K mainGlobals "spellings_of" = some (some (.ref f_spellings_of)))
    (l_spellings_of : K.lookup f_spellings_of = some ⟨oc_spellings_of, od_spellings_of, .func (PySem.W.fnOf "spellings_of" "spellings_of" (defArgs sSpell) (defBody sSpell) (defScope sSpell) .none kV_spellings_of dc_spellings_of pm_spellings_of an_spellings_of cd_spellings_of ct_spellings_of), sl_spellings_of⟩)
    (c_spellings_of : PySem.W.codeIn K cd_spellings_of "spellings_of" = true)
    (k_spellings_of : PySem.W.keepIn K (.ref f_spellings_of) = true)
    (a_covered_places : PySem.W.nsIn K mainGlobals "covered_places" = some (some (.ref f_covered_places)))
    (l_covered_places : K.lookup f_covered_places = some ⟨oc_covered_places, od_covered_places, .func (PySem.W.fnOf "covered_places" "covered_places" (defArgs sCov) (defBody sCov) (defScope sCov) .none kV_covered_places dc_covered_places pm_covered_places an_covered_places cd_covered_places ct_covered_places), sl_covered_places⟩)
    (c_covered_places : PySem.W.codeIn K cd_covered_places "covered_places" = true)
    (k_covered_places : PySem.W.keepIn K (.ref f_covered_places) = true)
    (a_begins_longer : PySem.W.nsIn K mainGlobals "begins_longer" = some (some (.ref f_begins_longer)))
    (l_begins_longer : K.lookup f_begins_longer = some ⟨oc_begins_longer, od_begins_longer, .func (PySem.W.fnOf "begins_longer" "begins_longer" (defArgs sLong) (defBody sLong) (defScope sLong) .none kV_begins_longer dc_begins_longer pm_begins_longer an_begins_longer cd_begins_longer ct_begins_longer), sl_begins_longer⟩)
    (c_begins_longer : PySem.W.codeIn K cd_begins_longer "begins_longer" = true)
    (k_begins_longer : PySem.W.keepIn K (.ref f_begins_longer) = true)
    (a_first_begun : PySem.W.nsIn K mainGlobals "first_begun" = some (some (.ref f_first_begun)))
    (l_first_begun : K.lookup f_first_begun = some ⟨oc_first_begun, od_first_begun, .func (PySem.W.fnOf "first_begun" "first_begun" (defArgs sBegun) (defBody sBegun) (defScope sBegun) .none kV_first_begun dc_first_begun pm_first_begun an_first_begun cd_first_begun ct_first_begun), sl_first_begun⟩)
    (c_first_begun : PySem.W.codeIn K cd_first_begun "first_begun" = true)
    (k_first_begun : PySem.W.keepIn K (.ref f_first_begun) = true)
    (a_first_unsettled : PySem.W.nsIn K mainGlobals "first_unsettled" = some (some (.ref f_first_unsettled)))
    (l_first_unsettled : K.lookup f_first_unsettled = some ⟨oc_first_unsettled, od_first_unsettled, .func (PySem.W.fnOf "first_unsettled" "first_unsettled" (defArgs sUns) (defBody sUns) (defScope sUns) .none kV_first_unsettled dc_first_unsettled pm_first_unsettled an_first_unsettled cd_first_unsettled ct_first_unsettled), sl_first_unsettled⟩)
    (c_first_unsettled : PySem.W.codeIn K cd_first_unsettled "first_unsettled" = true)
    (k_first_unsettled : PySem.W.keepIn K (.ref f_first_unsettled) = true)
    (a_shown_between : PySem.W.nsIn K mainGlobals "shown_between" = some (some (.ref f_shown_between)))
    (l_shown_between : K.lookup f_shown_between = some ⟨oc_shown_between, od_shown_between, .func (PySem.W.fnOf "shown_between" "shown_between" (defArgs sShown) (defBody sShown) (defScope sShown) .none kV_shown_between dc_shown_between pm_shown_between an_shown_between cd_shown_between ct_shown_between), sl_shown_between⟩)
    (c_shown_between : PySem.W.codeIn K cd_shown_between "shown_between" = true)
    (k_shown_between : PySem.W.keepIn K (.ref f_shown_between) = true)
    (a_row_at : PySem.W.nsIn K mainGlobals "row_at" = some (some (.ref f_row_at)))
    (l_row_at : K.lookup f_row_at = some ⟨oc_row_at, od_row_at, .func (PySem.W.fnOf "row_at" "row_at" (defArgs sRow) (defBody sRow) (defScope sRow) .none kV_row_at dc_row_at pm_row_at an_row_at cd_row_at ct_row_at), sl_row_at⟩)
    (c_row_at : PySem.W.codeIn K cd_row_at "row_at" = true)
    (k_row_at : PySem.W.keepIn K (.ref f_row_at) = true)
    (a_answer_at : PySem.W.nsIn K mainGlobals "answer_at" = some (some (.ref f_answer_at)))
    (l_answer_at : K.lookup f_answer_at = some ⟨oc_answer_at, od_answer_at, .func (PySem.W.fnOf "answer_at" "answer_at" (defArgs sAt) (defBody sAt) (defScope sAt) .none kV_answer_at dc_answer_at pm_answer_at an_answer_at cd_answer_at ct_answer_at), sl_answer_at⟩)
    (c_answer_at : PySem.W.codeIn K cd_answer_at "answer_at" = true)
    (k_answer_at : PySem.W.keepIn K (.ref f_answer_at) = true)
    (a_place_behind : PySem.W.nsIn K mainGlobals "place_behind" = some (some (.ref f_place_behind)))
    (l_place_behind : K.lookup f_place_behind = some ⟨oc_place_behind, od_place_behind, .func (PySem.W.fnOf "place_behind" "place_behind" (defArgs sBehind) (defBody sBehind) (defScope sBehind) .none kV_place_behind dc_place_behind pm_place_behind an_place_behind cd_place_behind ct_place_behind), sl_place_behind⟩)
    (c_place_behind : PySem.W.codeIn K cd_place_behind "place_behind" = true)
    (k_place_behind : PySem.W.keepIn K (.ref f_place_behind) = true)
    (a_answers : PySem.W.nsIn K mainGlobals "answers" = some (some (.ref f_answers)))
    (l_answers : K.lookup f_answers = some ⟨oc_answers, od_answers, .func (PySem.W.fnOf "answers" "answers" (defArgs sAnswers) (defBody sAnswers) (defScope sAnswers) .none kV_answers dc_answers pm_answers an_answers cd_answers ct_answers), sl_answers⟩)
    (c_answers : PySem.W.codeIn K cd_answers "answers" = true)
    (k_answers : PySem.W.keepIn K (.ref f_answers) = true)
    (a_House : PySem.W.nsIn K mainGlobals "House" = some (some (.ref C)))
    (a___init__ : PySem.W.findIn K (.ref C) "__init__" = some (some (.ref f___init__)))
    (i___init__ : PySem.W.isFn K (.ref f___init__) = true)
    (l___init__ : K.lookup f___init__ = some ⟨oc___init__, od___init__, .func (PySem.W.fnOf "__init__" "House.__init__" (defArgs sInit) (defBody sInit) (defScope sInit) .none kV___init__ dc___init__ pm___init__ an___init__ cd___init__ ct___init__), sl___init__⟩)
    (c___init__ : PySem.W.codeIn K cd___init__ "House.__init__" = true)
    (k___init__ : PySem.W.keepIn K (.ref f___init__) = true)
    (a_begins : PySem.W.findIn K (.ref C) "begins" = some (some (.ref f_begins)))
    (i_begins : PySem.W.isFn K (.ref f_begins) = true)
    (l_begins : K.lookup f_begins = some ⟨oc_begins, od_begins, .func (PySem.W.fnOf "begins" "House.begins" (defArgs sBegins) (defBody sBegins) (defScope sBegins) .none kV_begins dc_begins pm_begins an_begins cd_begins ct_begins), sl_begins⟩)
    (c_begins : PySem.W.codeIn K cd_begins "House.begins" = true)
    (k_begins : PySem.W.keepIn K (.ref f_begins) = true)
    (a_begin_text : PySem.W.findIn K (.ref C) "begin_text" = some (some (.ref f_begin_text)))
    (i_begin_text : PySem.W.isFn K (.ref f_begin_text) = true)
    (l_begin_text : K.lookup f_begin_text = some ⟨oc_begin_text, od_begin_text, .func (PySem.W.fnOf "begin_text" "House.begin_text" (defArgs sBText) (defBody sBText) (defScope sBText) .none kV_begin_text dc_begin_text pm_begin_text an_begin_text cd_begin_text ct_begin_text), sl_begin_text⟩)
    (c_begin_text : PySem.W.codeIn K cd_begin_text "House.begin_text" = true)
    (k_begin_text : PySem.W.keepIn K (.ref f_begin_text) = true)
    (a_secret : PySem.W.findIn K (.ref C) "secret" = some (some (.ref f_secret)))
    (i_secret : PySem.W.isFn K (.ref f_secret) = true)
    (l_secret : K.lookup f_secret = some ⟨oc_secret, od_secret, .func (PySem.W.fnOf "secret" "House.secret" (defArgs sSecret) (defBody sSecret) (defScope sSecret) .none kV_secret dc_secret pm_secret an_secret cd_secret ct_secret), sl_secret⟩)
    (c_secret : PySem.W.codeIn K cd_secret "House.secret" = true)
    (k_secret : PySem.W.keepIn K (.ref f_secret) = true)
    (a_feed : PySem.W.findIn K (.ref C) "feed" = some (some (.ref f_feed)))
    (i_feed : PySem.W.isFn K (.ref f_feed) = true)
    (l_feed : K.lookup f_feed = some ⟨oc_feed, od_feed, .func (PySem.W.fnOf "feed" "House.feed" (defArgs sFeed) (defBody sFeed) (defScope sFeed) .none kV_feed dc_feed pm_feed an_feed cd_feed ct_feed), sl_feed⟩)
    (c_feed : PySem.W.codeIn K cd_feed "House.feed" = true)
    (k_feed : PySem.W.keepIn K (.ref f_feed) = true)
    (a_ends : PySem.W.findIn K (.ref C) "ends" = some (some (.ref f_ends)))
    (i_ends : PySem.W.isFn K (.ref f_ends) = true)
    (l_ends : K.lookup f_ends = some ⟨oc_ends, od_ends, .func (PySem.W.fnOf "ends" "House.ends" (defArgs sEnds) (defBody sEnds) (defScope sEnds) .none kV_ends dc_ends pm_ends an_ends cd_ends ct_ends), sl_ends⟩)
    (c_ends : PySem.W.codeIn K cd_ends "House.ends" = true)
    (k_ends : PySem.W.keepIn K (.ref f_ends) = true)
    (a_held : PySem.W.findIn K (.ref C) "held" = some (some (.ref f_held)))
    (i_held : PySem.W.isFn K (.ref f_held) = true)
    (l_held : K.lookup f_held = some ⟨oc_held, od_held, .func (PySem.W.fnOf "held" "House.held" (defArgs sHeld) (defBody sHeld) (defScope sHeld) .none kV_held dc_held pm_held an_held cd_held ct_held), sl_held⟩)
    (c_held : PySem.W.codeIn K cd_held "House.held" = true)
    (k_held : PySem.W.keepIn K (.ref f_held) = true)
    (a_spell : PySem.W.findIn K (.ref C) "spell" = some (some (.ref f_spell)))
    (i_spell : PySem.W.isFn K (.ref f_spell) = true)
    (l_spell : K.lookup f_spell = some ⟨oc_spell, od_spell, .func (PySem.W.fnOf "spell" "House.spell" (defArgs sSpellM) (defBody sSpellM) (defScope sSpellM) .none kV_spell dc_spell pm_spell an_spell cd_spell ct_spell), sl_spell⟩)
    (c_spell : PySem.W.codeIn K cd_spell "House.spell" = true)
    (k_spell : PySem.W.keepIn K (.ref f_spell) = true)
    (a_whole : PySem.W.findIn K (.ref C) "whole" = some (some (.ref f_whole)))
    (i_whole : PySem.W.isFn K (.ref f_whole) = true)
    (l_whole : K.lookup f_whole = some ⟨oc_whole, od_whole, .func (PySem.W.fnOf "whole" "House.whole" (defArgs sAll) (defBody sAll) (defScope sAll) .none kV_whole dc_whole pm_whole an_whole cd_whole ct_whole), sl_whole⟩)
    (c_whole : PySem.W.codeIn K cd_whole "House.whole" = true)
    (k_whole : PySem.W.keepIn K (.ref f_whole) = true)
    (c_pg : PySem.W.plainGet K C Str.empty = true)
    (c_hd : PySem.W.hasDictIn K C = true)
    (c_po : PySem.W.plainOver K C = true)
    (c_sa : PySem.W.findIn K (.ref C) "__setattr__" = some (some (.builtin "object.__setattr__")))
    (c_mk : PySem.W.makesIn K C = true)
    (c_kc : PySem.W.keepIn K (.ref C) = true)
    (n_secrets : PySem.W.findIn K (.ref C) "secrets" = some none)
    (n_spellings : PySem.W.findIn K (.ref C) "spellings" = some none)
    (n_text : PySem.W.findIn K (.ref C) "text" = some none)
    (n_settled : PySem.W.findIn K (.ref C) "settled" = some none)
    (g_BEGINS : PySem.W.nsIn K mainGlobals "BEGINS" = some (some (.int 0 t_BEGINS)))
    (g_SECRET : PySem.W.nsIn K mainGlobals "SECRET" = some (some (.int 1 t_SECRET)))
    (g_FEED : PySem.W.nsIn K mainGlobals "FEED" = some (some (.int 2 t_FEED)))
    (g_ENDS : PySem.W.nsIn K mainGlobals "ENDS" = some (some (.int 3 t_ENDS)))
    (g_HELD : PySem.W.nsIn K mainGlobals "HELD" = some (some (.int 4 t_HELD)))
    (g_SPELL : PySem.W.nsIn K mainGlobals "SPELL" = some (some (.int 5 t_SPELL)))
    (g_ALL : PySem.W.nsIn K mainGlobals "ALL" = some (some (.int 6 t_ALL)))
    (g_STAR : PySem.W.nsIn K mainGlobals "STAR" = some (some (.int 42 t_STAR)))
    (g_MOST_SECRETS : PySem.W.nsIn K mainGlobals "MOST_SECRETS" = some (some (.int 5 t_MOST_SECRETS)))
    (g_MOST_SECRET_BYTES : PySem.W.nsIn K mainGlobals "MOST_SECRET_BYTES" = some (some (.int 12 t_MOST_SECRET_BYTES)))
    (g_MOST_TEXT_BYTES : PySem.W.nsIn K mainGlobals "MOST_TEXT_BYTES" = some (some (.int 300 t_MOST_TEXT_BYTES)))
    (g_LEAST_INNER_SIGNS : PySem.W.nsIn K mainGlobals "LEAST_INNER_SIGNS" = some (some (.int 4 t_LEAST_INNER_SIGNS)))
    (g_SMALL_SIXTEENS : PySem.W.nsIn K mainGlobals "SMALL_SIXTEENS" = some (some (.str zSmall t_SMALL_SIXTEENS)))
    (g_LARGE_SIXTEENS : PySem.W.nsIn K mainGlobals "LARGE_SIXTEENS" = some (some (.str zLarge t_LARGE_SIXTEENS)))
    (g_SIX_SIGNS : PySem.W.nsIn K mainGlobals "SIX_SIGNS" = some (some (.str zSix t_SIX_SIGNS)))
    (g_len : PySem.W.nsIn K mainGlobals "len" = some none)
    (g_ord : PySem.W.nsIn K mainGlobals "ord" = some none)
    (g_range : PySem.W.nsIn K mainGlobals "range" = some none)
    (g_list : PySem.W.nsIn K mainGlobals "list" = some none)
    : ∃ fd : FuncData, (∀ (s : Shared) (us : List Value), us.length = (["calls"] : List Str).length → BindsTo s fd ⟨us, []⟩ ((["calls"] : List Str).zip us)) ∧ ∀ base : Heap, K.In base → base.Ns mainGlobals mg → FnOk P w K mg base CX0 6 fa fd ["calls"] (spAnswers K) := by
  have e := hfa.symm.trans (PySem.W.mg_of X G a_answers)
  cases e
  have T : Txt K C := ⟨⟨c_pg, c_hd, c_po, c_sa⟩, n_secrets, n_spellings, n_text, n_settled⟩
  have e_House := PySem.W.mg_of X G a_House
  have e_is_secret := PySem.W.mg_of X G a_is_secret
  have e_may_be_spelled := PySem.W.mg_of X G a_may_be_spelled
  have e_in_sixteens := PySem.W.mg_of X G a_in_sixteens
  have e_bits_of := PySem.W.mg_of X G a_bits_of
  have e_sixes_of := PySem.W.mg_of X G a_sixes_of
  have e_inner_rows := PySem.W.mg_of X G a_inner_rows
  have e_spellings_of := PySem.W.mg_of X G a_spellings_of
  have e_covered_places := PySem.W.mg_of X G a_covered_places
  have e_begins_longer := PySem.W.mg_of X G a_begins_longer
  have e_first_begun := PySem.W.mg_of X G a_first_begun
  have e_first_unsettled := PySem.W.mg_of X G a_first_unsettled
  have e_shown_between := PySem.W.mg_of X G a_shown_between
  have e_row_at := PySem.W.mg_of X G a_row_at
  have e_answer_at := PySem.W.mg_of X G a_answer_at
  have e_place_behind := PySem.W.mg_of X G a_place_behind
  have e_answers := PySem.W.mg_of X G a_answers
  have F_is_secret := fun_mk (st := sIsSec) l_is_secret c_is_secret k_is_secret
  have b_is_secret := F_is_secret.binds (ps := ["row"]) fun _ _ _ _ _ _ us hl => match us, hl with | [_], _ => rfl
  have F_may_be_spelled := fun_mk (st := sMay) l_may_be_spelled c_may_be_spelled k_may_be_spelled
  have b_may_be_spelled := F_may_be_spelled.binds (ps := ["which", "row"]) fun _ _ _ _ _ _ us hl => match us, hl with | [_, _], _ => rfl
  have F_in_sixteens := fun_mk (st := sHex) l_in_sixteens c_in_sixteens k_in_sixteens
  have b_in_sixteens := F_in_sixteens.binds (ps := ["row", "signs"]) fun _ _ _ _ _ _ us hl => match us, hl with | [_, _], _ => rfl
  have F_bits_of := fun_mk (st := sBits) l_bits_of c_bits_of k_bits_of
  have b_bits_of := F_bits_of.binds (ps := ["row"]) fun _ _ _ _ _ _ us hl => match us, hl with | [_], _ => rfl
  have F_sixes_of := fun_mk (st := sSixes) l_sixes_of c_sixes_of k_sixes_of
  have b_sixes_of := F_sixes_of.binds (ps := ["bits"]) fun _ _ _ _ _ _ us hl => match us, hl with | [_], _ => rfl
  have F_inner_rows := fun_mk (st := sInner) l_inner_rows c_inner_rows k_inner_rows
  have b_inner_rows := F_inner_rows.binds (ps := ["row"]) fun _ _ _ _ _ _ us hl => match us, hl with | [_], _ => rfl
  have F_spellings_of := fun_mk (st := sSpell) l_spellings_of c_spellings_of k_spellings_of
  have b_spellings_of := F_spellings_of.binds (ps := ["which", "row"]) fun _ _ _ _ _ _ us hl => match us, hl with | [_, _], _ => rfl
  have F_covered_places := fun_mk (st := sCov) l_covered_places c_covered_places k_covered_places
  have b_covered_places := F_covered_places.binds (ps := ["text", "spellings"]) fun _ _ _ _ _ _ us hl => match us, hl with | [_, _], _ => rfl
  have F_begins_longer := fun_mk (st := sLong) l_begins_longer c_begins_longer k_begins_longer
  have b_begins_longer := F_begins_longer.binds (ps := ["row", "spellings"]) fun _ _ _ _ _ _ us hl => match us, hl with | [_, _], _ => rfl
  have F_first_begun := fun_mk (st := sBegun) l_first_begun c_first_begun k_first_begun
  have b_first_begun := F_first_begun.binds (ps := ["text", "spellings"]) fun _ _ _ _ _ _ us hl => match us, hl with | [_, _], _ => rfl
  have F_first_unsettled := fun_mk (st := sUns) l_first_unsettled c_first_unsettled k_first_unsettled
  have b_first_unsettled := F_first_unsettled.binds (ps := ["text", "spellings", "covered"]) fun _ _ _ _ _ _ us hl => match us, hl with | [_, _, _], _ => rfl
  have F_shown_between := fun_mk (st := sShown) l_shown_between c_shown_between k_shown_between
  have b_shown_between := F_shown_between.binds (ps := ["text", "covered", "start", "stop"]) fun _ _ _ _ _ _ us hl => match us, hl with | [_, _, _, _], _ => rfl
  have F_row_at := fun_mk (st := sRow) l_row_at c_row_at k_row_at
  have b_row_at := F_row_at.binds (ps := ["calls", "place"]) fun _ _ _ _ _ _ us hl => match us, hl with | [_, _], _ => rfl
  have F_answer_at := fun_mk (st := sAt) l_answer_at c_answer_at k_answer_at
  have b_answer_at := F_answer_at.binds (ps := ["house", "calls", "place"]) fun _ _ _ _ _ _ us hl => match us, hl with | [_, _, _], _ => rfl
  have F_place_behind := fun_mk (st := sBehind) l_place_behind c_place_behind k_place_behind
  have b_place_behind := F_place_behind.binds (ps := ["calls", "place"]) fun _ _ _ _ _ _ us hl => match us, hl with | [_, _], _ => rfl
  have F_answers := fun_mk (st := sAnswers) l_answers c_answers k_answers
  have b_answers := F_answers.binds (ps := ["calls"]) fun _ _ _ _ _ _ us hl => match us, hl with | [_], _ => rfl
  have F___init__ := fun_mk (st := sInit) l___init__ c___init__ k___init__
  have b___init__ := F___init__.binds (ps := ["self"]) fun _ _ _ _ _ _ us hl => match us, hl with | [_], _ => rfl
  have F_begins := fun_mk (st := sBegins) l_begins c_begins k_begins
  have b_begins := F_begins.binds (ps := ["self"]) fun _ _ _ _ _ _ us hl => match us, hl with | [_], _ => rfl
  have F_begin_text := fun_mk (st := sBText) l_begin_text c_begin_text k_begin_text
  have b_begin_text := F_begin_text.binds (ps := ["self"]) fun _ _ _ _ _ _ us hl => match us, hl with | [_], _ => rfl
  have F_secret := fun_mk (st := sSecret) l_secret c_secret k_secret
  have b_secret := F_secret.binds (ps := ["self", "which", "row"]) fun _ _ _ _ _ _ us hl => match us, hl with | [_, _, _], _ => rfl
  have F_feed := fun_mk (st := sFeed) l_feed c_feed k_feed
  have b_feed := F_feed.binds (ps := ["self", "piece"]) fun _ _ _ _ _ _ us hl => match us, hl with | [_, _], _ => rfl
  have F_ends := fun_mk (st := sEnds) l_ends c_ends k_ends
  have b_ends := F_ends.binds (ps := ["self"]) fun _ _ _ _ _ _ us hl => match us, hl with | [_], _ => rfl
  have F_held := fun_mk (st := sHeld) l_held c_held k_held
  have b_held := F_held.binds (ps := ["self"]) fun _ _ _ _ _ _ us hl => match us, hl with | [_], _ => rfl
  have F_spell := fun_mk (st := sSpellM) l_spell c_spell k_spell
  have b_spell := F_spell.binds (ps := ["self", "which", "row"]) fun _ _ _ _ _ _ us hl => match us, hl with | [_, _, _], _ => rfl
  have F_whole := fun_mk (st := sAll) l_whole c_whole k_whole
  have b_whole := F_whole.binds (ps := ["self", "text"]) fun _ _ _ _ _ _ us hl => match us, hl with | [_, _], _ => rfl
  have M___init__ : Meth K C "__init__" f___init__ := ⟨a___init__, i___init__, k___init__⟩
  have M_begins : Meth K C "begins" f_begins := ⟨a_begins, i_begins, k_begins⟩
  have M_begin_text : Meth K C "begin_text" f_begin_text := ⟨a_begin_text, i_begin_text, k_begin_text⟩
  have M_secret : Meth K C "secret" f_secret := ⟨a_secret, i_secret, k_secret⟩
  have M_feed : Meth K C "feed" f_feed := ⟨a_feed, i_feed, k_feed⟩
  have M_ends : Meth K C "ends" f_ends := ⟨a_ends, i_ends, k_ends⟩
  have M_held : Meth K C "held" f_held := ⟨a_held, i_held, k_held⟩
  have M_spell : Meth K C "spell" f_spell := ⟨a_spell, i_spell, k_spell⟩
  have M_whole : Meth K C "whole" f_whole := ⟨a_whole, i_whole, k_whole⟩
  have v_BEGINS : ∃ t, mg "BEGINS" = some (.int 0 t) := ⟨_, PySem.W.mg_of X G g_BEGINS⟩
  have v_SECRET : ∃ t, mg "SECRET" = some (.int 1 t) := ⟨_, PySem.W.mg_of X G g_SECRET⟩
  have v_FEED : ∃ t, mg "FEED" = some (.int 2 t) := ⟨_, PySem.W.mg_of X G g_FEED⟩
  have v_ENDS : ∃ t, mg "ENDS" = some (.int 3 t) := ⟨_, PySem.W.mg_of X G g_ENDS⟩
  have v_HELD : ∃ t, mg "HELD" = some (.int 4 t) := ⟨_, PySem.W.mg_of X G g_HELD⟩
  have v_SPELL : ∃ t, mg "SPELL" = some (.int 5 t) := ⟨_, PySem.W.mg_of X G g_SPELL⟩
  have v_ALL : ∃ t, mg "ALL" = some (.int 6 t) := ⟨_, PySem.W.mg_of X G g_ALL⟩
  have v_STAR : ∃ t, mg "STAR" = some (.int 42 t) := ⟨_, PySem.W.mg_of X G g_STAR⟩
  have v_MOST_SECRETS : ∃ t, mg "MOST_SECRETS" = some (.int 5 t) := ⟨_, PySem.W.mg_of X G g_MOST_SECRETS⟩
  have v_MOST_SECRET_BYTES : ∃ t, mg "MOST_SECRET_BYTES" = some (.int 12 t) := ⟨_, PySem.W.mg_of X G g_MOST_SECRET_BYTES⟩
  have v_MOST_TEXT_BYTES : ∃ t, mg "MOST_TEXT_BYTES" = some (.int 300 t) := ⟨_, PySem.W.mg_of X G g_MOST_TEXT_BYTES⟩
  have v_LEAST_INNER_SIGNS : ∃ t, mg "LEAST_INNER_SIGNS" = some (.int 4 t) := ⟨_, PySem.W.mg_of X G g_LEAST_INNER_SIGNS⟩
  have v_SMALL_SIXTEENS : ∃ t, mg "SMALL_SIXTEENS" = some (.str zSmall t) := ⟨_, PySem.W.mg_of X G g_SMALL_SIXTEENS⟩
  have v_LARGE_SIXTEENS : ∃ t, mg "LARGE_SIXTEENS" = some (.str zLarge t) := ⟨_, PySem.W.mg_of X G g_LARGE_SIXTEENS⟩
  have v_SIX_SIGNS : ∃ t, mg "SIX_SIGNS" = some (.str zSix t) := ⟨_, PySem.W.mg_of X G g_SIX_SIGNS⟩
  have z_len := PySem.W.mg_none_of X G g_len
  have z_ord := PySem.W.mg_none_of X G g_ord
  have z_range := PySem.W.mg_none_of X G g_range
  have z_list := PySem.W.mg_none_of X G g_list
  refine ⟨PySem.W.fnOf "answers" "answers" (defArgs sAnswers) (defBody sAnswers) (defScope sAnswers) .none kV_answers dc_answers pm_answers an_answers cd_answers ct_answers, fun s us hu => ?_, fun base _ _ => ?_⟩
  · match us, hu with
    | [_], _ => exact .of_eq rfl
  · have okBits := Df.mk' (k := 1) (base := base) (P := P) (w := w) e_bits_of F_bits_of b_bits_of (ok_bits F_bits_of z_range)
    have okSixes := Df.mk' (k := 1) (base := base) (P := P) (w := w) e_sixes_of F_sixes_of b_sixes_of (ok_sixes F_sixes_of z_range z_len z_ord v_SIX_SIGNS signs_ok)
    have okHex := Df.mk' (k := 1) (base := base) (P := P) (w := w) e_in_sixteens F_in_sixteens b_in_sixteens (ok_hex F_in_sixteens z_ord)
    have okIsSec := Df.mk' (k := 1) (base := base) (P := P) (w := w) e_is_secret F_is_secret b_is_secret (ok_issec F_is_secret z_len v_MOST_SECRET_BYTES v_STAR)
    have okMay := Df.mk' (k := 2) (base := base) (P := P) (w := w) e_may_be_spelled F_may_be_spelled b_may_be_spelled (ok_may F_may_be_spelled okIsSec)
    have okInner := Df.mk' (k := 2) (base := base) (P := P) (w := w) e_inner_rows F_inner_rows b_inner_rows (ok_inner F_inner_rows z_len v_LEAST_INNER_SIGNS okBits okSixes)
    have okSpell := Df.mk' (k := 3) (base := base) (P := P) (w := w) e_spellings_of F_spellings_of b_spellings_of (ok_spell F_spellings_of z_list v_SMALL_SIXTEENS v_LARGE_SIXTEENS small_ok large_ok okHex okInner)
    have okCov := Df.mk' (k := 1) (base := base) (P := P) (w := w) e_covered_places F_covered_places b_covered_places (ok_cov F_covered_places z_len z_range)
    have okLong := Df.mk' (k := 1) (base := base) (P := P) (w := w) e_begins_longer F_begins_longer b_begins_longer (ok_long F_begins_longer z_len)
    have okBegun := Df.mk' (k := 2) (base := base) (P := P) (w := w) e_first_begun F_first_begun b_first_begun (ok_begun F_first_begun z_len z_range okLong)
    have okUns := Df.mk' (k := 3) (base := base) (P := P) (w := w) e_first_unsettled F_first_unsettled b_first_unsettled (ok_uns F_first_unsettled z_len z_range okBegun)
    have okShown := Df.mk' (k := 1) (base := base) (P := P) (w := w) e_shown_between F_shown_between b_shown_between (ok_shown F_shown_between z_range v_STAR)
    have mBText := Mt.mk' (k := 1) (base := base) (P := P) (w := w) (mg := mg) M_begin_text b_begin_text (ok_btext F_begin_text T)
    have mBegins := Mt.mk' (k := 2) (base := base) (P := P) (w := w) (mg := mg) M_begins b_begins (ok_begins F_begins T mBText)
    have gInit := ok_init (base := base) (P := P) (w := w) (mg := mg) F___init__ T mBegins
    have mSecret := Mt.mk' (k := 4) (base := base) (P := P) (w := w) M_secret b_secret (ok_secret F_secret T z_len v_MOST_SECRETS okMay okSpell)
    have mFeed := Mt.mk' (k := 4) (base := base) (P := P) (w := w) M_feed b_feed (ok_feed F_feed T z_len v_MOST_TEXT_BYTES okCov okUns okShown)
    have mEnds := Mt.mk' (k := 2) (base := base) (P := P) (w := w) M_ends b_ends (ok_ends F_ends T z_len okCov okShown mBText)
    have mHeld := Mt.mk' (k := 1) (base := base) (P := P) (w := w) M_held b_held (ok_held F_held T z_len)
    have mSpell := Mt.mk' (k := 4) (base := base) (P := P) (w := w) M_spell b_spell (ok_spellm (C := C) F_spell z_len okMay okSpell)
    have mAll := Mt.mk' (k := 2) (base := base) (P := P) (w := w) M_whole b_whole (ok_all F_whole T z_len v_MOST_TEXT_BYTES okCov okShown)
    have okRow := Df.mk' (k := 1) (base := base) (P := P) (w := w) e_row_at F_row_at b_row_at (ok_row F_row_at)
    have okBehind := Df.mk' (k := 1) (base := base) (P := P) (w := w) e_place_behind F_place_behind b_place_behind (ok_behind F_place_behind v_SECRET v_FEED v_SPELL v_ALL)
    have okAt := Df.mk' (k := 5) (base := base) (P := P) (w := w) e_answer_at F_answer_at b_answer_at (ok_at F_answer_at T v_BEGINS v_SECRET v_FEED v_ENDS v_HELD v_SPELL v_ALL okRow mBegins mSecret mFeed mEnds mHeld mSpell mAll)
    exact ok_answers F_answers z_len e_House ⟨c_mk, a___init__, i___init__, c_kc⟩ b___init__ gInit okAt okBehind
end Sc
open PySem PySem.W PyProof.Rows
set_option maxRecDepth 100000 in
set_option maxHeartbeats 8000000 in
theorem PySem.Challenge.cw_starcover_s01_answers_holds : PySem.Challenge.rw_starcover_s01_answers.Holds := by
  w_on; k_headS; (case hw => exact ⟨[.list [.int 0]], by decide +kernel, by decide +kernel⟩)
  k_fillS
  refine L2.walk_specK (r := PySem.Challenge.rw_starcover_s01_answers) (k := 6) (CX := L2.CX0) (ps := ["calls"]) (sp := Sc.spAnswers) (by decide +kernel) rfl rfl ⟨rfl, by decide, by decide⟩ (fun w h Y => PySem.W.kIn_of Y) ?F ?S (fun _ _ _ _ z => z)
  case F =>
    intro w mg fa h Y KX G hmg
    refine' Sc.all_mk KX G hmg ?a_is_secret ?l_is_secret ?c_is_secret ?k_is_secret ?a_may_be_spelled ?l_may_be_spelled ?c_may_be_spelled ?k_may_be_spelled ?a_in_sixteens ?l_in_sixteens ?c_in_sixteens ?k_in_sixteens ?a_bits_of ?l_bits_of ?c_bits_of ?k_bits_of ?a_sixes_of ?l_sixes_of ?c_sixes_of ?k_sixes_of ?a_inner_rows ?l_inner_rows ?c_inner_rows ?k_inner_rows ?a_spellings_of ?l_spellings_of ?c_spellings_of ?k_spellings_of ?a_covered_places ?l_covered_places ?c_covered_places ?k_covered_places ?a_begins_longer ?l_begins_longer ?c_begins_longer ?k_begins_longer ?a_first_begun ?l_first_begun ?c_first_begun ?k_first_begun ?a_first_unsettled ?l_first_unsettled ?c_first_unsettled ?k_first_unsettled ?a_shown_between ?l_shown_between ?c_shown_between ?k_shown_between ?a_row_at ?l_row_at ?c_row_at ?k_row_at ?a_answer_at ?l_answer_at ?c_answer_at ?k_answer_at ?a_place_behind ?l_place_behind ?c_place_behind ?k_place_behind ?a_answers ?l_answers ?c_answers ?k_answers ?a_House ?a___init__ ?i___init__ ?l___init__ ?c___init__ ?k___init__ ?a_begins ?i_begins ?l_begins ?c_begins ?k_begins ?a_begin_text ?i_begin_text ?l_begin_text ?c_begin_text ?k_begin_text ?a_secret ?i_secret ?l_secret ?c_secret ?k_secret ?a_feed ?i_feed ?l_feed ?c_feed ?k_feed ?a_ends ?i_ends ?l_ends ?c_ends ?k_ends ?a_held ?i_held ?l_held ?c_held ?k_held ?a_spell ?i_spell ?l_spell ?c_spell ?k_spell ?a_whole ?i_whole ?l_whole ?c_whole ?k_whole ?c_pg ?c_hd ?c_po ?c_sa ?c_mk ?c_kc ?n_secrets ?n_spellings ?n_text ?n_settled ?g_BEGINS ?g_SECRET ?g_FEED ?g_ENDS ?g_HELD ?g_SPELL ?g_ALL ?g_STAR ?g_MOST_SECRETS ?g_MOST_SECRET_BYTES ?g_MOST_TEXT_BYTES ?g_LEAST_INNER_SIGNS ?g_SMALL_SIXTEENS ?g_LARGE_SIXTEENS ?g_SIX_SIGNS ?g_len ?g_ord ?g_range ?g_list
    (case a_is_secret => k_is)
    (case l_is_secret => k_is)
    (case c_is_secret => k_is)
    (case k_is_secret => k_is)
    (case a_may_be_spelled => k_is)
    (case l_may_be_spelled => k_is)
    (case c_may_be_spelled => k_is)
    (case k_may_be_spelled => k_is)
    (case a_in_sixteens => k_is)
    (case l_in_sixteens => k_is)
    (case c_in_sixteens => k_is)
    (case k_in_sixteens => k_is)
    (case a_bits_of => k_is)
    (case l_bits_of => k_is)
    (case c_bits_of => k_is)
    (case k_bits_of => k_is)
    (case a_sixes_of => k_is)
    (case l_sixes_of => k_is)
    (case c_sixes_of => k_is)
    (case k_sixes_of => k_is)
    (case a_inner_rows => k_is)
    (case l_inner_rows => k_is)
    (case c_inner_rows => k_is)
    (case k_inner_rows => k_is)
    (case a_spellings_of => k_is)
    (case l_spellings_of => k_is)
    (case c_spellings_of => k_is)
    (case k_spellings_of => k_is)
    (case a_covered_places => k_is)
    (case l_covered_places => k_is)
    (case c_covered_places => k_is)
    (case k_covered_places => k_is)
    (case a_begins_longer => k_is)
    (case l_begins_longer => k_is)
    (case c_begins_longer => k_is)
    (case k_begins_longer => k_is)
    (case a_first_begun => k_is)
    (case l_first_begun => k_is)
    (case c_first_begun => k_is)
    (case k_first_begun => k_is)
    (case a_first_unsettled => k_is)
    (case l_first_unsettled => k_is)
    (case c_first_unsettled => k_is)
    (case k_first_unsettled => k_is)
    (case a_shown_between => k_is)
    (case l_shown_between => k_is)
    (case c_shown_between => k_is)
    (case k_shown_between => k_is)
    (case a_row_at => k_is)
    (case l_row_at => k_is)
    (case c_row_at => k_is)
    (case k_row_at => k_is)
    (case a_answer_at => k_is)
    (case l_answer_at => k_is)
    (case c_answer_at => k_is)
    (case k_answer_at => k_is)
    (case a_place_behind => k_is)
    (case l_place_behind => k_is)
    (case c_place_behind => k_is)
    (case k_place_behind => k_is)
    (case a_answers => k_is)
    (case l_answers => k_is)
    (case c_answers => k_is)
    (case k_answers => k_is)
    (case a_House => k_is)
    (case a___init__ => k_is)
    (case i___init__ => k_is)
    (case l___init__ => k_is)
    (case c___init__ => k_is)
    (case k___init__ => k_is)
    (case a_begins => k_is)
    (case i_begins => k_is)
    (case l_begins => k_is)
    (case c_begins => k_is)
    (case k_begins => k_is)
    (case a_begin_text => k_is)
    (case i_begin_text => k_is)
    (case l_begin_text => k_is)
    (case c_begin_text => k_is)
    (case k_begin_text => k_is)
    (case a_secret => k_is)
    (case i_secret => k_is)
    (case l_secret => k_is)
    (case c_secret => k_is)
    (case k_secret => k_is)
    (case a_feed => k_is)
    (case i_feed => k_is)
    (case l_feed => k_is)
    (case c_feed => k_is)
    (case k_feed => k_is)
    (case a_ends => k_is)
    (case i_ends => k_is)
    (case l_ends => k_is)
    (case c_ends => k_is)
    (case k_ends => k_is)
    (case a_held => k_is)
    (case i_held => k_is)
    (case l_held => k_is)
    (case c_held => k_is)
    (case k_held => k_is)
    (case a_spell => k_is)
    (case i_spell => k_is)
    (case l_spell => k_is)
    (case c_spell => k_is)
    (case k_spell => k_is)
    (case a_whole => k_is)
    (case i_whole => k_is)
    (case l_whole => k_is)
    (case c_whole => k_is)
    (case k_whole => k_is)
    (case c_pg => k_is)
    (case c_hd => k_is)
    (case c_po => k_is)
    (case c_sa => k_is)
    (case c_mk => k_is)
    (case c_kc => k_is)
    (case n_secrets => k_is)
    (case n_spellings => k_is)
    (case n_text => k_is)
    (case n_settled => k_is)
    (case g_BEGINS => k_is)
    (case g_SECRET => k_is)
    (case g_FEED => k_is)
    (case g_ENDS => k_is)
    (case g_HELD => k_is)
    (case g_SPELL => k_is)
    (case g_ALL => k_is)
    (case g_STAR => k_is)
    (case g_MOST_SECRETS => k_is)
    (case g_MOST_SECRET_BYTES => k_is)
    (case g_MOST_TEXT_BYTES => k_is)
    (case g_LEAST_INNER_SIGNS => k_is)
    (case g_SMALL_SIXTEENS => k_is)
    (case g_LARGE_SIXTEENS => k_is)
    (case g_SIX_SIGNS => k_is)
    (case g_len => k_is)
    (case g_ord => k_is)
    (case g_range => k_is)
    (case g_list => k_is)
  case S =>
    intro K H xs a hO hwi hask hx
    cases hx with
    | cons h1 h2 =>
      cases h2
      cases h1 with
      | lst hs ha =>
        have e := L2.ints_dw a.1 _ ha
        subst e
        obtain ⟨ys, e1, hf, e2, hl⟩ := Sc.asked_form (show PyRp10.answers_asked a.1 = true from hask)
        refine ⟨_, ys, rfl, ?_, hf, hl, fun H' p hp => ?_⟩
        · rw [← e1]
          exact hs
        · have hp' : H' p = some (.lst ((PyRp10.answers a.1).map L2.V.int)) := by
            rw [e2]
            exact hp
          exact .lst (L2.SqL.of hp') (L2.dw_ints _)
#print axioms PySem.Challenge.cw_starcover_s01_answers_holds
