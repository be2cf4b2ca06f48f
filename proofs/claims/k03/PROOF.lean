import PyProof.Rows.All
import Wide.All
import OpenK.AllK
import Wide.FinOn
import HandS.ForMost
import HandS.TupAny
import HandS.TupMul
import HandS.IsInst
import HandS.MakeKwOnly
import HandS.DictComp
import HandS.Deep
import HandS.More
import HandS.Defaults
import HandS.Evl
import HandS.Walk
import KE.KDictKeyed
import KE.KeyNested
import PySem.Challenge.RW_beatwires_k03_whole_standings
set_option Elab.async false
set_option linter.all false
set_option maxRecDepth 100000
/-! The mathematics of standings: what stands for a register, told by its writers; one tick later. -/
namespace K3
set_option linter.unusedSectionVars false
set_option linter.unusedSimpArgs false
section
variable {κ : Type} [DecidableEq κ]

/-- what is known of kinds: the word of what is written, lengths, ways -/
structure Kd (κ : Type) where
  z : κ
  len : κ → Int
  way : κ → Option Int

/-- one that writes: its place, kind, goal and the tick of its issue -/
structure Wr (κ : Type) where
  place : Int
  kind : κ
  goal : Int
  tick : Int
deriving DecidableEq

abbrev En (κ : Type) := κ × Int

variable (k : Kd κ)

def land (w : Wr κ) : Int := w.tick + k.len w.kind
def there (t : Int) (w : Wr κ) : Bool := decide (land k w ≤ t)

/-! ### the program's side -/
def canRead (e : En κ) : Bool :=
  if e.1 = k.z then decide (e.2 = 0) else match k.way e.1 with
    | none => false
    | some x => decide (x ≤ e.2)
def grown (e : En κ) : En κ :=
  if e.1 = k.z then e else if e.2 + 1 < k.len e.1 then (e.1, e.2 + 1) else (k.z, 2)
def isJust (e : En κ) : Bool := decide (e = (k.z, 2))
def isWr (e : En κ) : Bool := decide (e.1 = k.z)

def idxs (P : En κ → Bool) : Int → List (En κ) → List Int
  | _, [] => []
  | i, e :: o => if P e then i :: idxs P (i + 1) o else idxs P (i + 1) o
theorem idxs_snoc (P : En κ → Bool) (e : En κ) : ∀ (o : List (En κ)) (i : Int), idxs P i (o ++ [e]) = idxs P i o ++ (if P e then [i + o.length] else [])
  | [], i => by
    cases h : P e <;> simp [idxs, h]
  | d :: o, i => by
    have ih := idxs_snoc P e o (i + 1)
    have a : i + 1 + (o.length : Int) = i + ((o.length : Int) + 1) := by omega
    cases h : P d
    · simp only [List.cons_append, idxs, h, Bool.false_eq_true, if_false, ih, List.length_cons, Int.natCast_add, Int.cast_ofNat_Int, a]
    · simp only [List.cons_append, idxs, h, if_true, ih, List.length_cons, Int.natCast_add, Int.cast_ofNat_Int, a]

def keep1 (p q i : Int) (e : En κ) : Option (En κ) :=
  if e.1 = k.z then (if i = p then some (k.z, 0) else if i = q then some (k.z, 1) else none) else some e
def kept (p q : Int) : Int → List (En κ) → List (En κ)
  | _, [] => []
  | i, e :: o => (keep1 k p q i e).toList ++ kept p q (i + 1) o
theorem kept_snoc (p q : Int) (e : En κ) : ∀ (o : List (En κ)) (i : Int), kept k p q i (o ++ [e]) = kept k p q i o ++ (keep1 k p q (i + o.length) e).toList
  | [], i => by simp [kept]
  | d :: o, i => by
    have ih := kept_snoc p q e o (i + 1)
    have a : i + 1 + (o.length : Int) = i + ((o.length : Int) + 1) := by omega
    simp only [List.cons_append, kept, ih, List.length_cons, Int.natCast_add, Int.cast_ofNat_Int, a, List.append_assoc]

/-- what the program makes of entries one tick later -/
def AgedIs (es r : List (En κ)) : Prop :=
  (idxs (isJust k) 0 (es.map (grown k)) = [] ∧ r = es.map (grown k)) ∨
  ∃ p q, (idxs (isJust k) 0 (es.map (grown k))).getLast? = some p ∧ q ∈ idxs (isWr k) 0 (es.map (grown k)) ∧ (∀ y ∈ idxs (isWr k) 0 (es.map (grown k)), y ≤ q) ∧ r = kept k p q 0 (es.map (grown k))

def hasJ (o : List (En κ)) : Bool := o.any (isJust k)
def hasW (o : List (En κ)) : Bool := o.any (isWr k)
def kR : List (En κ) → List (En κ)
  | [] => []
  | e :: o => if e.1 = k.z then (if e.2 = 2 ∧ hasJ k o = false then (k.z, 0) :: kR o else if hasW k o = false then (k.z, 1) :: kR o else kR o) else e :: kR o

def lastIdx (P : En κ → Bool) : Int → List (En κ) → Option Int
  | _, [] => none
  | i, e :: o => match lastIdx P (i + 1) o with
    | some j => some j
    | none => if P e then some i else none
theorem lastIdx_getLast (P : En κ → Bool) : ∀ (o : List (En κ)) (i : Int), (idxs P i o).getLast? = lastIdx P i o
  | [], _ => rfl
  | e :: o, i => by
    have ih := lastIdx_getLast P o (i + 1)
    unfold idxs lastIdx
    rw [← ih]
    cases h : P e
    · simp only [Bool.false_eq_true, if_false]
      cases (idxs P (i + 1) o).getLast? <;> rfl
    · simp only [if_true]
      cases hh : idxs P (i + 1) o with
      | nil => rfl
      | cons a l => simp [List.getLast?_cons]
theorem idxs_ge (P : En κ → Bool) : ∀ (o : List (En κ)) (i : Int), ∀ y ∈ idxs P i o, i ≤ y
  | [], _, y, h => by simp [idxs] at h
  | e :: o, i, y, h => by
    unfold idxs at h
    cases hp : P e <;> simp only [hp, Bool.false_eq_true, if_false, if_true] at h
    · have := idxs_ge P o (i + 1) y h; omega
    · rcases List.mem_cons.mp h with rfl | h
      · omega
      · have := idxs_ge P o (i + 1) y h; omega
theorem lastIdx_ge {P : En κ → Bool} {o : List (En κ)} {i p : Int} (h : lastIdx P i o = some p) : i ≤ p := by
  rw [← lastIdx_getLast] at h
  exact idxs_ge P o i p (List.mem_of_getLast? h)
theorem lastIdx_none {P : En κ → Bool} : ∀ {o : List (En κ)} {i : Int}, lastIdx P i o = none ↔ o.any P = false
  | [], _ => by simp [lastIdx]
  | e :: o, i => by
    have ih := lastIdx_none (P := P) (o := o) (i := i + 1)
    unfold lastIdx
    cases h : lastIdx P (i + 1) o with
    | some j =>
      have : ¬ o.any P = false := fun z => by rw [ih.mpr z] at h; cases h
      simp only [List.any_cons]
      constructor
      · intro z; cases z
      · intro z; exact absurd (Bool.or_eq_false_iff.mp z).2 this
    | none =>
      have := ih.mp h
      simp only [List.any_cons, this, Bool.or_false]
      cases hp : P e <;> simp
/-- the greatest of the places is the last one -/
theorem lastIdx_max (P : En κ → Bool) : ∀ (o : List (En κ)) (i q : Int), q ∈ idxs P i o → (∀ y ∈ idxs P i o, y ≤ q) → lastIdx P i o = some q
  | [], _, q, h, _ => by simp [idxs] at h
  | e :: o, i, q, h, hm => by
    unfold lastIdx
    cases hl : lastIdx P (i + 1) o with
    | some j =>
      have hj : j ∈ idxs P (i + 1) o := by
        rw [← lastIdx_getLast] at hl; exact List.mem_of_getLast? hl
      have hj' : j ∈ idxs P i (e :: o) := by
        unfold idxs; cases P e <;> simp [hj]
      have h1 := hm j hj'
      have hq : q ∈ idxs P (i + 1) o := by
        unfold idxs at h
        cases hp : P e <;> simp only [hp, Bool.false_eq_true, if_false, if_true] at h
        · exact h
        · rcases List.mem_cons.mp h with rfl | h
          · have := idxs_ge P o (q + 1) j hj; omega
          · exact h
      have hm' : ∀ y ∈ idxs P (i + 1) o, y ≤ q := fun y hy => hm y (by unfold idxs; cases P e <;> simp [hy])
      have := lastIdx_max P o (i + 1) q hq hm'
      rw [hl] at this
      simpa using this
    | none =>
      have ha := lastIdx_none.mp hl
      have he : idxs P (i + 1) o = [] := by
        cases hz : idxs P (i + 1) o with
        | nil => rfl
        | cons a l =>
          have hg : (idxs P (i + 1) o).getLast? = none := by rw [lastIdx_getLast]; exact hl
          rw [hz] at hg; simp [List.getLast?_cons] at hg
      unfold idxs at h
      rw [he] at h
      cases hp : P e <;> simp only [hp, Bool.false_eq_true, if_false, if_true] at h
      · cases h
      · simp at h; simp [h]
theorem kept_kR (p q : Int) : ∀ (o : List (En κ)) (i : Int),
    (lastIdx (isJust k) i o = some p ∨ (lastIdx (isJust k) i o = none ∧ p < i)) →
    (lastIdx (isWr k) i o = some q ∨ (lastIdx (isWr k) i o = none ∧ q < i)) → kept k p q i o = kR k o
  | [], _, _, _ => rfl
  | e :: o, i, hJ, hW => by
    have stepJ : (lastIdx (isJust k) (i + 1) o = some p ∨ (lastIdx (isJust k) (i + 1) o = none ∧ p < i + 1)) ∧ (i = p ↔ (isJust k e = true ∧ hasJ k o = false)) := by
      unfold lastIdx at hJ
      cases hl : lastIdx (isJust k) (i + 1) o with
      | some j =>
        rw [hl] at hJ
        have hge := lastIdx_ge hl
        have hn : hasJ k o ≠ false := fun z => by rw [lastIdx_none.mpr z] at hl; cases hl
        rcases hJ with hJ | ⟨hJ, _⟩
        · have : j = p := by simpa using hJ
          subst this
          exact ⟨.inl rfl, ⟨fun z => by omega, fun z => absurd z.2 hn⟩⟩
        · cases hJ
      | none =>
        rw [hl] at hJ
        have ha : hasJ k o = false := lastIdx_none.mp hl
        cases hp : isJust k e <;> simp only [hp, Bool.false_eq_true, if_false, if_true] at hJ
        · rcases hJ with hJ | ⟨_, hJ⟩
          · cases hJ
          · exact ⟨.inr ⟨rfl, by omega⟩, ⟨fun z => by omega, fun z => by simp at z⟩⟩
        · rcases hJ with hJ | ⟨hJ, _⟩
          · have : i = p := by simpa using hJ
            exact ⟨.inr ⟨rfl, by omega⟩, ⟨fun _ => ⟨rfl, ha⟩, fun _ => this⟩⟩
          · cases hJ
    have stepW : (lastIdx (isWr k) (i + 1) o = some q ∨ (lastIdx (isWr k) (i + 1) o = none ∧ q < i + 1)) ∧ (i = q ↔ (isWr k e = true ∧ hasW k o = false)) := by
      unfold lastIdx at hW
      cases hl : lastIdx (isWr k) (i + 1) o with
      | some j =>
        rw [hl] at hW
        have hge := lastIdx_ge hl
        have hn : hasW k o ≠ false := fun z => by rw [lastIdx_none.mpr z] at hl; cases hl
        rcases hW with hJ | ⟨hJ, _⟩
        · have : j = q := by simpa using hJ
          subst this
          exact ⟨.inl rfl, ⟨fun z => by omega, fun z => absurd z.2 hn⟩⟩
        · cases hJ
      | none =>
        rw [hl] at hW
        have ha : hasW k o = false := lastIdx_none.mp hl
        cases hp : isWr k e <;> simp only [hp, Bool.false_eq_true, if_false, if_true] at hW
        · rcases hW with hJ | ⟨_, hJ⟩
          · cases hJ
          · exact ⟨.inr ⟨rfl, by omega⟩, ⟨fun z => by omega, fun z => by simp at z⟩⟩
        · rcases hW with hJ | ⟨hJ, _⟩
          · have : i = q := by simpa using hJ
            exact ⟨.inr ⟨rfl, by omega⟩, ⟨fun _ => ⟨rfl, ha⟩, fun _ => this⟩⟩
          · cases hJ
    have ih := kept_kR p q o (i + 1) stepJ.1 stepW.1
    unfold kept kR keep1
    rw [ih]
    by_cases hz : e.1 = k.z
    · have w1 : isWr k e = true := decide_eq_true hz
      have j1 : isJust k e = true ↔ e.2 = 2 := by
        unfold isJust
        constructor
        · intro h; have := of_decide_eq_true h; rw [this]
        · intro h; exact decide_eq_true (Prod.ext hz h)
      rw [if_pos hz, if_pos hz]
      by_cases h1 : i = p
      · have a := stepJ.2.mp h1
        rw [if_pos h1, if_pos ⟨j1.mp a.1, a.2⟩]; rfl
      · have a : ¬ (e.2 = 2 ∧ hasJ k o = false) := fun z => h1 (stepJ.2.mpr ⟨j1.mpr z.1, z.2⟩)
        rw [if_neg h1, if_neg a]
        by_cases h2 : i = q
        · rw [if_pos h2, if_pos (stepW.2.mp h2).2]; rfl
        · have b : ¬ hasW k o = false := fun z => h2 (stepW.2.mpr ⟨w1, z⟩)
          rw [if_neg h2, if_neg b]; rfl
    · rw [if_neg hz, if_neg hz]; rfl
def agedS (es : List (En κ)) : List (En κ) := let o := es.map (grown k); if hasJ k o then kR k o else o
theorem AgedIs.eq {es r : List (En κ)} (h : AgedIs k es r) : r = agedS k es := by
  unfold agedS
  rcases h with ⟨h1, rfl⟩ | ⟨p, q, h1, h2, h3, rfl⟩
  · have : hasJ k (es.map (grown k)) = false := by
      refine lastIdx_none (i := 0).mp ?_
      rw [← lastIdx_getLast, h1]; rfl
    simp [this]
  · rw [lastIdx_getLast] at h1
    have hj : hasJ k (es.map (grown k)) = true := by
      cases hh : hasJ k (es.map (grown k)) with
      | true => rfl
      | false => rw [lastIdx_none.mpr hh] at h1; cases h1
    have h4 := lastIdx_max (isWr k) _ 0 q h2 h3
    simp only [hj, if_true]
    exact kept_kR k p q _ 0 (.inl h1) (.inl h4)

/-! ### the law's side -/
/-- the last of those that are there, by the law's walk -/
def lastStep (t : Int) (f : Option (Wr κ)) (w : Wr κ) : Option (Wr κ) :=
  if there k t w then (match f with
    | none => some w
    | some v => if land k v ≤ land k w then some w else some v) else f
def lastL (t : Int) (l : List (Wr κ)) : Option (Wr κ) := l.foldl (lastStep k t) none
def newestThere (t : Int) (l : List (Wr κ)) : Option (Wr κ) := (l.filter (there k t)).getLast?
def row1 (t : Int) (la nt : Option (Wr κ)) (w : Wr κ) : Option (En κ) :=
  if there k t w = false then some (w.kind, t - w.tick) else if some w = la then some (k.z, 0) else if some w = nt then some (k.z, 1) else none
def lawRow (t : Int) (l : List (Wr κ)) : List (En κ) :=
  (if (lastL k t l).isSome then [] else [(k.z, 0)]) ++ l.filterMap (row1 k t (lastL k t l) (newestThere k t l))

def lR (M t : Int) : List (Wr κ) → List (En κ)
  | [] => []
  | w :: l => if there k t w = false then (w.kind, t - w.tick) :: lR M t l
    else if land k w = M ∧ (∀ u ∈ l, land k u ≠ M) then (k.z, 0) :: lR M t l
    else if (∀ u ∈ l, there k t u = false) then (k.z, 1) :: lR M t l else lR M t l

theorem lR_cons (M t : Int) (w : Wr κ) (l : List (Wr κ)) : lR k M t (w :: l) = if there k t w = false then (w.kind, t - w.tick) :: lR k M t l
    else if land k w = M ∧ (∀ u ∈ l, land k u ≠ M) then (k.z, 0) :: lR k M t l
    else if (∀ u ∈ l, there k t u = false) then (k.z, 1) :: lR k M t l else lR k M t l := rfl
theorem kR_cons (e : En κ) (o : List (En κ)) : kR k (e :: o) = if e.1 = k.z then (if e.2 = 2 ∧ hasJ k o = false then (k.z, 0) :: kR k o else if hasW k o = false then (k.z, 1) :: kR k o else kR k o) else e :: kR k o := rfl
theorem last_inv (t : Int) (l : List (Wr κ)) : (lastL k t l = none ∧ ∀ u ∈ l, there k t u = false) ∨
    ∃ pre v post, l = pre ++ v :: post ∧ lastL k t l = some v ∧ there k t v = true ∧ (∀ u ∈ pre, there k t u = true → land k u ≤ land k v) ∧ (∀ u ∈ post, there k t u = true → land k u < land k v) := by
  have key : ∀ (r : List (Wr κ)), (lastL k t r.reverse = none ∧ ∀ u ∈ r.reverse, there k t u = false) ∨
      ∃ pre v post, r.reverse = pre ++ v :: post ∧ lastL k t r.reverse = some v ∧ there k t v = true ∧ (∀ u ∈ pre, there k t u = true → land k u ≤ land k v) ∧ (∀ u ∈ post, there k t u = true → land k u < land k v) := by
    intro r
    induction r with
    | nil => exact .inl ⟨rfl, by simp⟩
    | cons w r ih =>
      have e : lastL k t (w :: r).reverse = lastStep k t (lastL k t r.reverse) w := by
        unfold lastL; rw [List.reverse_cons, List.foldl_append]; rfl
      have er : (w :: r).reverse = r.reverse ++ [w] := List.reverse_cons
      rw [e, er]
      unfold lastStep
      cases hw : there k t w with
      | false =>
        simp only [Bool.false_eq_true, if_false]
        rcases ih with ⟨h1, h2⟩ | ⟨pre, v, post, h1, h2, h3, h4, h5⟩
        · left; refine ⟨h1, fun u hu => ?_⟩
          rcases List.mem_append.mp hu with hu | hu
          · exact h2 u hu
          · rw [List.mem_singleton] at hu; subst hu; exact hw
        · right; refine ⟨pre, v, post ++ [w], by rw [h1]; simp, h2, h3, h4, fun u hu ht => ?_⟩
          rcases List.mem_append.mp hu with hu | hu
          · exact h5 u hu ht
          · rw [List.mem_singleton] at hu; subst hu; rw [hw] at ht; cases ht
      | true =>
        simp only [if_true]
        right
        rcases ih with ⟨h1, h2⟩ | ⟨pre, v, post, h1, h2, h3, h4, h5⟩
        · rw [h1]
          refine ⟨r.reverse, w, [], by simp, rfl, hw, fun u hu ht => ?_, by simp⟩
          rw [h2 u hu] at ht; cases ht
        · rw [h2]
          by_cases hl : land k v ≤ land k w
          · simp only [hl, if_true]
            refine ⟨r.reverse, w, [], by simp, rfl, hw, fun u hu ht => ?_, by simp⟩
            rw [h1] at hu
            rcases List.mem_append.mp hu with hu | hu
            · have := h4 u hu ht; omega
            · rcases List.mem_cons.mp hu with rfl | hu
              · exact hl
              · have := h5 u hu ht; omega
          · simp only [hl, if_false]
            refine ⟨pre, v, post ++ [w], by rw [h1]; simp, rfl, h3, h4, fun u hu ht => ?_⟩
            rcases List.mem_append.mp hu with hu | hu
            · exact h5 u hu ht
            · rw [List.mem_singleton] at hu; subst hu; omega
  have := key l.reverse
  simpa using this
theorem land_of_there {t : Int} {w : Wr κ} (h : there k t w = true) : land k w ≤ t := of_decide_eq_true h
theorem not_there {t : Int} {w : Wr κ} (h : there k t w = false) : t < land k w := by
  have := of_decide_eq_false h; omega
theorem row1_lR (t : Int) (v : Wr κ) (nt : Option (Wr κ)) (hv : there k t v = true) : ∀ (l : List (Wr κ)), l.Nodup →
    (v ∈ l → ∃ pre post, l = pre ++ v :: post ∧ (∀ u ∈ post, there k t u = true → land k u < land k v)) →
    (¬ v ∈ l → ∀ u ∈ l, there k t u = true → land k u < land k v) →
    ((l.filter (there k t)).getLast? = nt ∨ ((l.filter (there k t)) = [] ∧ ∀ u, nt = some u → u ∉ l)) →
    l.filterMap (row1 k t (some v) nt) = lR k (land k v) t l
  | [], _, _, _, _ => rfl
  | w :: l, hn, hi, ho, hnt => by
    have hnl := (List.nodup_cons.mp hn).2
    have hwl := (List.nodup_cons.mp hn).1
    have hvt := land_of_there k hv
    have hi' : v ∈ l → ∃ pre post, l = pre ++ v :: post ∧ (∀ u ∈ post, there k t u = true → land k u < land k v) := fun hvl => by
      obtain ⟨pre, post, e, hp⟩ := hi (List.mem_cons_of_mem _ hvl)
      cases pre with
      | nil =>
        simp only [List.nil_append, List.cons.injEq] at e
        rw [e.1] at hwl; exact absurd hvl hwl
      | cons a pre =>
        simp only [List.cons_append, List.cons.injEq] at e
        exact ⟨pre, post, e.2, hp⟩
    have ho' : ¬ v ∈ l → ∀ u ∈ l, there k t u = true → land k u < land k v := fun hvl u hu ht => by
      by_cases hwv : w = v
      · obtain ⟨pre, post, e, hp⟩ := hi (by rw [hwv]; exact List.mem_cons_self)
        cases pre with
        | nil =>
          simp only [List.nil_append, List.cons.injEq] at e
          rw [e.2] at hu; exact hp u hu ht
        | cons a pre =>
          simp only [List.cons_append, List.cons.injEq] at e
          rw [e.2] at hvl; simp at hvl
      · exact ho (fun z => by rcases List.mem_cons.mp z with z | z; exact hwv z.symm; exact hvl z) u (List.mem_cons_of_mem _ hu) ht
    have hnt' : ((l.filter (there k t)).getLast? = nt ∨ ((l.filter (there k t)) = [] ∧ ∀ u, nt = some u → u ∉ l)) := by
      cases hf : l.filter (there k t) with
      | nil =>
        right
        refine ⟨rfl, fun u hu hul => ?_⟩
        have hall : ∀ x ∈ l, there k t x = false := fun x hx => by
          cases hh : there k t x with
          | false => rfl
          | true => have : x ∈ l.filter (there k t) := List.mem_filter.mpr ⟨hx, hh⟩; rw [hf] at this; cases this
        rcases hnt with h | ⟨_, h⟩
        · rw [List.filter_cons, hf] at h
          cases hw : there k t w with
          | true => rw [hw] at h; simp only [if_true, List.getLast?_singleton] at h; rw [hu] at h; cases h; exact hwl hul
          | false => rw [hw] at h; simp at h; rw [hu] at h; cases h
        · exact h u hu (List.mem_cons_of_mem _ hul)
      | cons a r =>
        left
        rcases hnt with h | ⟨h, _⟩
        · rw [List.filter_cons, hf] at h
          cases hw : there k t w with
          | true => rw [hw] at h; simp only [if_true, List.getLast?_cons_cons] at h; exact h
          | false => rw [hw] at h; simpa using h
        · rw [List.filter_cons, hf] at h
          cases hw : there k t w <;> rw [hw] at h <;> simp at h
    have ih := row1_lR t v nt hv l hnl hi' ho' hnt'
    rw [List.filterMap_cons, ih, lR_cons]
    unfold row1
    cases hw : there k t w with
    | false => simp
    | true =>
      simp only [Bool.true_eq_false, if_false]
      have hlater : (some w = nt) ↔ (∀ u ∈ l, there k t u = false) := by
        constructor
        · intro e u hu
          cases hh : there k t u with
          | false => rfl
          | true =>
            have hm : u ∈ l.filter (there k t) := List.mem_filter.mpr ⟨hu, hh⟩
            rcases hnt' with h | ⟨h, _⟩
            · rw [← e] at h
              have := List.mem_of_getLast? h
              exact absurd (List.mem_filter.mp this).1 hwl
            · rw [h] at hm; cases hm
        · intro hall
          have hf : l.filter (there k t) = [] := List.filter_eq_nil_iff.mpr fun u hu => by rw [hall u hu]; simp
          rcases hnt with h | ⟨h, _⟩
          · rw [List.filter_cons, hw, hf] at h; simpa using h
          · rw [List.filter_cons, hw] at h; simp at h
      by_cases hwv : w = v
      · subst hwv
        have hcond : (∀ u ∈ l, land k u ≠ land k w) := fun u hu e => by
          have h2 := ho' hwl u hu (decide_eq_true (by rw [e]; exact hvt))
          omega
        rw [if_pos rfl, if_pos ⟨rfl, hcond⟩]
      · have h1 : ¬ (some w = some v) := fun e => hwv (Option.some.inj e)
        have h2 : ¬ (land k w = land k v ∧ ∀ u ∈ l, land k u ≠ land k v) := fun ⟨e, hall⟩ => by
          by_cases hvl : v ∈ l
          · exact hall v hvl rfl
          · have := ho (fun z => by rcases List.mem_cons.mp z with z | z; exact hwv z.symm; exact hvl z) w List.mem_cons_self hw
            omega
        rw [if_neg h1, if_neg h2]
        by_cases h3 : ∀ u ∈ l, there k t u = false
        · rw [if_pos (hlater.mpr h3), if_pos h3]
        · rw [if_neg (fun e => h3 (hlater.mp e)), if_neg h3]
theorem row1_none (t : Int) (la nt : Option (Wr κ)) : ∀ (l : List (Wr κ)), (∀ u ∈ l, there k t u = false) → l.filterMap (row1 k t la nt) = l.map fun w => (w.kind, t - w.tick)
  | [], _ => rfl
  | w :: l, h => by
    have hw := h w List.mem_cons_self
    rw [List.filterMap_cons, row1_none t la nt l fun u hu => h u (List.mem_cons_of_mem _ hu)]
    unfold row1; simp [hw]
theorem lR_none (M t : Int) : ∀ (l : List (Wr κ)), (∀ u ∈ l, there k t u = false) → lR k M t l = l.map fun w => (w.kind, t - w.tick)
  | [], _ => rfl
  | w :: l, h => by
    have hw := h w List.mem_cons_self
    rw [lR_cons, lR_none M t l fun u hu => h u (List.mem_cons_of_mem _ hu)]; simp [hw]
/-- what stands, by what is there -/
theorem lawRow_eq (t : Int) (l : List (Wr κ)) (hn : l.Nodup) : ((∀ u ∈ l, there k t u = false) ∧ lawRow k t l = (k.z, 0) :: l.map fun w => (w.kind, t - w.tick)) ∨
    ∃ v, v ∈ l ∧ lastL k t l = some v ∧ there k t v = true ∧ (∀ u ∈ l, there k t u = true → land k u ≤ land k v) ∧ lawRow k t l = lR k (land k v) t l := by
  rcases last_inv k t l with ⟨h1, h2⟩ | ⟨pre, v, post, h1, h2, h3, h4, h5⟩
  · left
    refine ⟨h2, ?_⟩
    unfold lawRow
    rw [h1, row1_none k t _ _ l h2]; rfl
  · right
    refine ⟨v, by rw [h1]; simp, h2, h3, fun u hu ht => ?_, ?_⟩
    · rw [h1] at hu
      rcases List.mem_append.mp hu with hu | hu
      · exact h4 u hu ht
      · rcases List.mem_cons.mp hu with rfl | hu
        · omega
        · have := h5 u hu ht; omega
    · unfold lawRow
      rw [h2]
      show [] ++ _ = _
      rw [List.nil_append]
      refine row1_lR k t v _ h3 l hn (fun _ => ⟨pre, post, h1, h5⟩) (fun z => absurd (by rw [h1]; simp) z) (.inl rfl)

theorem ne02 : ¬ ((0 : Int) = 2) := by decide
theorem ne12 : ¬ ((1 : Int) = 2) := by decide
theorem gl_snoc {α : Type} (l : List α) (w : α) : (l ++ [w]).getLast? = some w := by simp
/-! ### one tick later -/
theorem hasJ_cons (e : En κ) (o : List (En κ)) : hasJ k (e :: o) = (isJust k e || hasJ k o) := rfl
theorem hasW_cons (e : En κ) (o : List (En κ)) : hasW k (e :: o) = (isWr k e || hasW k o) := rfl
theorem isJust_iff (e : En κ) : isJust k e = true ↔ (e.1 = k.z ∧ e.2 = 2) := by
  unfold isJust
  constructor
  · intro h; have := of_decide_eq_true h; rw [this]; exact ⟨rfl, rfl⟩
  · intro h; exact decide_eq_true (Prod.ext h.1 h.2)
theorem isWr_iff (e : En κ) : isWr k e = true ↔ e.1 = k.z := ⟨fun h => of_decide_eq_true h, fun h => decide_eq_true h⟩
theorem hasJ_hasW (o : List (En κ)) (h : hasJ k o = true) : hasW k o = true := by
  obtain ⟨e, he, hj⟩ := List.any_eq_true.mp h
  exact List.any_eq_true.mpr ⟨e, he, (isWr_iff k e).mpr ((isJust_iff k e).mp hj).1⟩
theorem step_now (M t : Int) : ∀ (l : List (Wr κ)), (∀ w ∈ l, w.kind ≠ k.z) →
    kR k ((lR k M t l).map (grown k)) = lR k (t + 1) (t + 1) l ∧ (hasJ k ((lR k M t l).map (grown k)) = true ↔ ∃ w ∈ l, land k w = t + 1) ∧ (hasW k ((lR k M t l).map (grown k)) = true ↔ ∃ w ∈ l, there k (t + 1) w = true)
  | [], _ => by simp [lR, kR, hasJ, hasW]
  | w :: l, hz => by
    have hwz := hz w List.mem_cons_self
    obtain ⟨i1, i2, i3⟩ := step_now M t l fun u hu => hz u (List.mem_cons_of_mem _ hu)
    have j2 : hasJ k ((lR k M t l).map (grown k)) = false ↔ ∀ u ∈ l, land k u ≠ t + 1 := by
      rw [← Bool.not_eq_true, i2]
      constructor
      · intro h u hu e; exact h ⟨u, hu, e⟩
      · rintro h ⟨u, hu, e⟩; exact h u hu e
    have j3 : hasW k ((lR k M t l).map (grown k)) = false ↔ ∀ u ∈ l, there k (t + 1) u = false := by
      rw [← Bool.not_eq_true, i3]
      constructor
      · intro h u hu
        cases hh : there k (t + 1) u with
        | false => rfl
        | true => exact absurd ⟨u, hu, hh⟩ h
      · rintro h ⟨u, hu, e⟩; rw [h u hu] at e; cases e
    rw [lR_cons k M t, lR_cons k (t + 1) (t + 1)]
    cases hw : there k t w with
    | false =>
      have hlt := not_there k hw
      simp only [if_true, List.map_cons]
      have hg : grown k (w.kind, t - w.tick) = if t + 1 < land k w then (w.kind, t + 1 - w.tick) else (k.z, 2) := by
        unfold grown land
        have e2 : t - w.tick + 1 = t + 1 - w.tick := by omega
        simp only [hwz, if_false, e2]
        by_cases h : t + 1 < w.tick + k.len w.kind
        · rw [if_pos h, if_pos (by omega)]
        · rw [if_neg h, if_neg (by omega)]
      rw [hg]
      by_cases h1 : t + 1 < land k w
      · have hn : there k (t + 1) w = false := decide_eq_false (by unfold land at *; omega)
        simp only [h1, if_true, hn]
        refine ⟨?_, ?_, ?_⟩
        · rw [kR_cons, if_neg hwz, i1]
        · rw [hasJ_cons]
          have : isJust k (w.kind, t + 1 - w.tick) = false := by
            rw [← Bool.not_eq_true, isJust_iff]; exact fun h => hwz h.1
          rw [this, Bool.false_or, i2]
          constructor
          · rintro ⟨u, hu, e⟩; exact ⟨u, List.mem_cons_of_mem _ hu, e⟩
          · rintro ⟨u, hu, e⟩
            rcases List.mem_cons.mp hu with rfl | hu
            · omega
            · exact ⟨u, hu, e⟩
        · rw [hasW_cons]
          have : isWr k (w.kind, t + 1 - w.tick) = false := by
            rw [← Bool.not_eq_true, isWr_iff]; exact hwz
          rw [this, Bool.false_or, i3]
          constructor
          · rintro ⟨u, hu, e⟩; exact ⟨u, List.mem_cons_of_mem _ hu, e⟩
          · rintro ⟨u, hu, e⟩
            rcases List.mem_cons.mp hu with rfl | hu
            · rw [hn] at e; cases e
            · exact ⟨u, hu, e⟩
      · have he : land k w = t + 1 := by omega
        have hn : there k (t + 1) w = true := decide_eq_true (by omega)
        rw [if_neg h1]
        simp only [if_false, hn, Bool.true_eq_false, he, true_and]
        refine ⟨?_, ?_, ?_⟩
        · rw [kR_cons, if_pos rfl, i1]
          by_cases h2 : ∀ u ∈ l, land k u ≠ t + 1
          · rw [if_pos ⟨rfl, j2.mpr h2⟩, if_pos h2]
          · rw [if_neg (fun z => h2 (j2.mp z.2)), if_neg h2]
            by_cases h3 : ∀ u ∈ l, there k (t + 1) u = false
            · rw [if_pos (j3.mpr h3), if_pos h3]
            · rw [if_neg (fun z => h3 (j3.mp z)), if_neg h3]
        · rw [hasJ_cons, (isJust_iff k (k.z, 2)).mpr ⟨rfl, rfl⟩]
          simp only [Bool.true_or, true_iff]
          exact ⟨w, List.mem_cons_self, he⟩
        · rw [hasW_cons, (isWr_iff k (k.z, 2)).mpr rfl]
          simp only [Bool.true_or, true_iff]
          exact ⟨w, List.mem_cons_self, hn⟩
    | true =>
      have hle := land_of_there k hw
      have hn : there k (t + 1) w = true := decide_eq_true (by omega)
      have hne : land k w ≠ t + 1 := by omega
      have m2 : (∃ u ∈ w :: l, land k u = t + 1) ↔ (∃ u ∈ l, land k u = t + 1) := by
        constructor
        · rintro ⟨u, hu, e⟩
          rcases List.mem_cons.mp hu with rfl | hu
          · exact absurd e hne
          · exact ⟨u, hu, e⟩
        · rintro ⟨u, hu, e⟩; exact ⟨u, List.mem_cons_of_mem _ hu, e⟩
      have m3 : ∃ u ∈ w :: l, there k (t + 1) u = true := ⟨w, List.mem_cons_self, hn⟩
      simp only [Bool.true_eq_false, if_false, hn, hne, false_and]
      have keep : ∀ a : Int, a = 0 ∨ a = 1 → kR k (List.map (grown k) ((k.z, a) :: lR k M t l)) = (if ∀ u ∈ l, there k (t + 1) u = false then (k.z, 1) :: lR k (t + 1) (t + 1) l else lR k (t + 1) (t + 1) l) ∧
          (hasJ k (List.map (grown k) ((k.z, a) :: lR k M t l)) = true ↔ ∃ u ∈ w :: l, land k u = t + 1) ∧ (hasW k (List.map (grown k) ((k.z, a) :: lR k M t l)) = true ↔ ∃ u ∈ w :: l, there k (t + 1) u = true) := by
        intro a ha
        have ga : grown k (k.z, a) = (k.z, a) := by unfold grown; simp
        rw [List.map_cons, ga]
        refine ⟨?_, ?_, ?_⟩
        · rw [kR_cons, if_pos rfl, if_neg (fun z => by have : a = 2 := z.1; omega), i1]
          by_cases h3 : ∀ u ∈ l, there k (t + 1) u = false
          · rw [if_pos (j3.mpr h3), if_pos h3]
          · rw [if_neg (fun z => h3 (j3.mp z)), if_neg h3]
        · rw [hasJ_cons, m2]
          have : isJust k (k.z, a) = false := by
            rw [← Bool.not_eq_true, isJust_iff]; intro h; have : a = 2 := h.2; omega
          rw [this, Bool.false_or, i2]
        · rw [hasW_cons, (isWr_iff k (k.z, a)).mpr rfl]
          simp only [Bool.true_or, true_iff]
          exact m3
      by_cases h1 : land k w = M ∧ ∀ u ∈ l, land k u ≠ M
      · rw [if_pos h1]; exact keep 0 (.inl rfl)
      · rw [if_neg h1]
        by_cases h2 : ∀ u ∈ l, there k t u = false
        · rw [if_pos h2]; exact keep 1 (.inr rfl)
        · rw [if_neg h2]
          have h3 : ∃ u ∈ l, there k (t + 1) u = true := by
            apply Classical.byContradiction
            intro hc
            refine h2 fun u hu => ?_
            cases hh : there k t u with
            | false => rfl
            | true =>
              have := land_of_there k hh
              exact absurd ⟨u, hu, decide_eq_true (by omega)⟩ hc
          rw [if_neg (fun z => by obtain ⟨u, hu, e⟩ := h3; rw [z u hu] at e; cases e)]
          refine ⟨i1, ?_, ?_⟩
          · rw [m2]; exact i2
          · rw [i3]; exact ⟨fun _ => m3, fun _ => h3⟩
theorem there_next {t : Int} {w : Wr κ} (h : land k w ≠ t + 1) : there k (t + 1) w = there k t w := by
  unfold there
  by_cases h1 : land k w ≤ t
  · rw [decide_eq_true h1, decide_eq_true (by omega)]
  · rw [decide_eq_false h1, decide_eq_false (by omega)]
theorem grown_under {t : Int} {w : Wr κ} (hz : w.kind ≠ k.z) (h : there k (t + 1) w = false) : grown k (w.kind, t - w.tick) = (w.kind, t + 1 - w.tick) := by
  have := not_there k h
  unfold grown land at *
  have e2 : t - w.tick + 1 = t + 1 - w.tick := by omega
  simp only [hz, if_false, e2]
  rw [if_pos (by omega)]
theorem step_later (M t : Int) : ∀ (l : List (Wr κ)), (∀ w ∈ l, w.kind ≠ k.z) → (∀ w ∈ l, land k w ≠ t + 1) →
    lR k M (t + 1) l = (lR k M t l).map (grown k) ∧ hasJ k ((lR k M t l).map (grown k)) = false
  | [], _, _ => ⟨rfl, rfl⟩
  | w :: l, hz, hn => by
    have hwz := hz w List.mem_cons_self
    obtain ⟨i1, i2⟩ := step_later M t l (fun u hu => hz u (List.mem_cons_of_mem _ hu)) (fun u hu => hn u (List.mem_cons_of_mem _ hu))
    have ht := there_next k (hn w List.mem_cons_self)
    have hall : (∀ u ∈ l, there k (t + 1) u = false) ↔ (∀ u ∈ l, there k t u = false) := by
      constructor
      · intro h u hu; rw [← there_next k (hn u (List.mem_cons_of_mem _ hu))]; exact h u hu
      · intro h u hu; rw [there_next k (hn u (List.mem_cons_of_mem _ hu))]; exact h u hu
    have g0 : grown k (k.z, 0) = (k.z, 0) := by unfold grown; simp
    have g1 : grown k (k.z, 1) = (k.z, 1) := by unfold grown; simp
    have n0 : isJust k (k.z, 0) = false := by
      rw [← Bool.not_eq_true, isJust_iff]; exact fun h => ne02 h.2
    have n1 : isJust k (k.z, 1) = false := by
      rw [← Bool.not_eq_true, isJust_iff]; exact fun h => ne12 h.2
    rw [lR_cons k M t, lR_cons k M (t + 1), ht]
    cases hw : there k t w with
    | false =>
      simp only [if_true, List.map_cons]
      rw [grown_under k hwz (by rw [ht]; exact hw), i1]
      refine ⟨rfl, ?_⟩
      rw [hasJ_cons, i2, Bool.or_false, ← Bool.not_eq_true, isJust_iff]
      exact fun h => hwz h.1
    | true =>
      simp only [Bool.true_eq_false, if_false]
      by_cases h1 : land k w = M ∧ ∀ u ∈ l, land k u ≠ M
      · rw [if_pos h1, if_pos h1, List.map_cons, g0, i1]
        exact ⟨rfl, by rw [hasJ_cons, i2, n0]; rfl⟩
      · rw [if_neg h1, if_neg h1]
        by_cases h2 : ∀ u ∈ l, there k t u = false
        · rw [if_pos (hall.mpr h2), if_pos h2, List.map_cons, g1, i1]
          exact ⟨rfl, by rw [hasJ_cons, i2, n1]; rfl⟩
        · rw [if_neg (fun z => h2 (hall.mp z)), if_neg h2]
          exact ⟨i1, i2⟩
/-- THE STEP: what the program makes of a standing is the law's standing one tick later -/
theorem aged_row (t : Int) (l : List (Wr κ)) (hn : l.Nodup) (hz : ∀ w ∈ l, w.kind ≠ k.z) : agedS k (lawRow k t l) = lawRow k (t + 1) l := by
  have g0 : grown k (k.z, 0) = (k.z, 0) := by unfold grown; simp
  by_cases hj : ∃ w ∈ l, land k w = t + 1
  · have e2 : lawRow k (t + 1) l = lR k (t + 1) (t + 1) l := by
      obtain ⟨w, hw, he⟩ := hj
      rcases lawRow_eq k (t + 1) l hn with ⟨h1, _⟩ | ⟨v, h1, h2, h3, h4, h5⟩
      · have := not_there k (h1 w hw); omega
      · have a := h4 w hw (decide_eq_true (by omega))
        have b := land_of_there k h3
        have : land k v = t + 1 := by omega
        rw [h5, this]
    rw [e2]
    rcases lawRow_eq k t l hn with ⟨h1, h2⟩ | ⟨v, h1, h2, h3, h4, h5⟩
    · obtain ⟨i1, i2, i3⟩ := step_now k 0 t l hz
      rw [lR_none k 0 t l h1] at i1 i2 i3
      have hJ := i2.mpr hj
      have hW := hasJ_hasW k _ hJ
      rw [h2]
      unfold agedS
      rw [List.map_cons, g0]
      simp only [hasJ_cons, hJ, Bool.or_true, if_true]
      rw [kR_cons, if_pos rfl, if_neg (fun z => ne02 z.1), if_neg (fun z => by rw [hW] at z; cases z)]
      exact i1
    · obtain ⟨i1, i2, i3⟩ := step_now k (land k v) t l hz
      rw [h5]
      unfold agedS
      simp only [i2.mpr hj, if_true]
      exact i1
  · have hno : ∀ w ∈ l, land k w ≠ t + 1 := fun w hw e => hj ⟨w, hw, e⟩
    rcases lawRow_eq k t l hn with ⟨h1, h2⟩ | ⟨v, h1, h2, h3, h4, h5⟩
    · have h1' : ∀ u ∈ l, there k (t + 1) u = false := fun u hu => by rw [there_next k (hno u hu)]; exact h1 u hu
      rcases lawRow_eq k (t + 1) l hn with ⟨_, h6⟩ | ⟨v, hv, _, h3, _⟩
      · obtain ⟨i1, i2⟩ := step_later k 0 t l hz hno
        rw [lR_none k 0 t l h1] at i1 i2
        rw [lR_none k 0 (t + 1) l h1'] at i1
        rw [h2, h6]
        unfold agedS
        rw [List.map_cons, g0]
        have n0 : isJust k (k.z, 0) = false := by
          rw [← Bool.not_eq_true, isJust_iff]; exact fun h => ne02 h.2
        simp only [hasJ_cons, n0, i2, Bool.or_false, Bool.false_eq_true, if_false]
        rw [i1]
      · rw [h1' v hv] at h3; cases h3
    · rcases lawRow_eq k (t + 1) l hn with ⟨h6, _⟩ | ⟨v', hv', _, h3', h4', h5'⟩
      · rw [← there_next k (hno v h1), h6 v h1] at h3; cases h3
      · have a := h4' v h1 (by rw [there_next k (hno v h1)]; exact h3)
        have b := h4 v' hv' (by rw [← there_next k (hno v' hv')]; exact h3')
        have e : land k v' = land k v := by omega
        obtain ⟨i1, i2⟩ := step_later k (land k v) t l hz hno
        rw [h5, h5', e]
        unfold agedS
        simp only [i2, Bool.false_eq_true, if_false]
        exact i1.symm

/-! ### issue -/
theorem there_zero {t : Int} {w : Wr κ} (ht : w.tick = t) (hl : 1 ≤ k.len w.kind) : there k t w = false := decide_eq_false (by unfold land; omega)
theorem put_row (t : Int) (l : List (Wr κ)) (w : Wr κ) (ht : w.tick = t) (hl : 1 ≤ k.len w.kind) : lawRow k t (l ++ [w]) = lawRow k t l ++ [(w.kind, 0)] := by
  have hw := there_zero k ht hl
  have e1 : lastL k t (l ++ [w]) = lastL k t l := by
    unfold lastL; rw [List.foldl_append]; show lastStep k t _ w = _; unfold lastStep; rw [hw]; simp
  have e2 : newestThere k t (l ++ [w]) = newestThere k t l := by
    unfold newestThere; rw [List.filter_append]; simp [hw]
  unfold lawRow
  rw [e1, e2, List.filterMap_append, List.append_assoc]
  have : List.filterMap (row1 k t (lastL k t l) (newestThere k t l)) [w] = [(w.kind, 0)] := by
    simp [row1, hw, ht]
  rw [this]

/-! ### what is read, what is held, how it ends -/
def topOf (t : Int) (l : List (Wr κ)) : En κ := match l.getLast? with
  | none => (k.z, 0)
  | some w => if there k t w = false then (w.kind, t - w.tick) else if lastL k t l = some w then (k.z, 0) else (k.z, 1)
theorem row_last (t : Int) (l : List (Wr κ)) : (lawRow k t l).getLast? = some (topOf k t l) := by
  unfold topOf
  rcases List.eq_nil_or_concat l with rfl | ⟨pre, w, rfl⟩
  · simp [lawRow, lastL]
  · rw [List.concat_eq_append, gl_snoc]
    unfold lawRow
    rw [List.filterMap_append, ← List.append_assoc]
    have : ∃ e, List.filterMap (row1 k t (lastL k t (pre ++ [w])) (newestThere k t (pre ++ [w]))) [w] = [e] ∧ e = if there k t w = false then (w.kind, t - w.tick) else if lastL k t (pre ++ [w]) = some w then (k.z, 0) else (k.z, 1) := by
      cases hw : there k t w with
      | false => exact ⟨_, by simp [row1, hw], rfl⟩
      | true =>
        have hn : newestThere k t (pre ++ [w]) = some w := by
          unfold newestThere; rw [List.filter_append]; simp [hw]
        rw [hn]
        by_cases h : lastL k t (pre ++ [w]) = some w
        · exact ⟨_, by simp [row1, hw, h], rfl⟩
        · have h' : ¬ (some w = lastL k t (pre ++ [w])) := fun z => h z.symm
          exact ⟨_, by simp [row1, hw, h', h], rfl⟩
    obtain ⟨e, h1, h2⟩ := this
    rw [h1, gl_snoc, h2]
/-- the law's word: an instruction that reads l's register is held -/
def srcHeld (t : Int) (l : List (Wr κ)) : Bool := match l.getLast? with
  | none => false
  | some w => !there k t w && (match k.way w.kind with
    | none => true
    | some x => decide (t - w.tick < x))
theorem srcHeld_eq (t : Int) (l : List (Wr κ)) (hz : ∀ w ∈ l, w.kind ≠ k.z) : (!(isWr k (topOf k t l)) && !canRead k (topOf k t l)) = srcHeld k t l := by
  unfold topOf srcHeld
  cases hl : l.getLast? with
  | none => simp [isWr]
  | some w =>
    have hwz := hz w (List.mem_of_getLast? hl)
    simp only []
    cases hw : there k t w with
    | true =>
      simp only [Bool.true_eq_false, if_false]
      by_cases h : lastL k t l = some w <;> simp [h, isWr]
    | false =>
      simp only [if_true, isWr, canRead, hwz, decide_false, Bool.not_false, Bool.true_and, if_false, hw]
      cases k.way w.kind with
      | none => rfl
      | some x =>
        simp only []
        by_cases h : x ≤ t - w.tick
        · rw [decide_eq_true h, decide_eq_false (by omega)]; rfl
        · rw [decide_eq_false h, decide_eq_true (by omega)]; rfl
def ordE (n : Int) (e : En κ) : Bool := !(isWr k e) && decide (n < k.len e.1 - e.2)
def ordW (t n : Int) (w : Wr κ) : Bool := decide (t + n < land k w)
theorem mem_lawRow {t : Int} {l : List (Wr κ)} {e : En κ} (h : e ∈ lawRow k t l) : e.1 = k.z ∨ ∃ w ∈ l, there k t w = false ∧ e = (w.kind, t - w.tick) := by
  unfold lawRow at h
  rcases List.mem_append.mp h with h | h
  · split at h
    · cases h
    · simp at h; left; rw [h]
  · obtain ⟨w, hw, he⟩ := List.mem_filterMap.mp h
    unfold row1 at he
    split at he
    · rename_i ht; right; exact ⟨w, hw, ht, (Option.some.inj he).symm⟩
    · split at he
      · left; rw [← Option.some.inj he]
      · split at he
        · left; rw [← Option.some.inj he]
        · cases he
theorem under_mem {t : Int} {l : List (Wr κ)} {w : Wr κ} (hw : w ∈ l) (h : there k t w = false) : (w.kind, t - w.tick) ∈ lawRow k t l := by
  unfold lawRow
  refine List.mem_append.mpr (.inr (List.mem_filterMap.mpr ⟨w, hw, ?_⟩))
  unfold row1; rw [if_pos h]
theorem ord_eq (t n : Int) (l : List (Wr κ)) (hz : ∀ w ∈ l, w.kind ≠ k.z) (hn : 0 ≤ n) : (lawRow k t l).any (ordE k n) = l.any (ordW k t n) := by
  rw [Bool.eq_iff_iff, List.any_eq_true, List.any_eq_true]
  constructor
  · rintro ⟨e, he, ho⟩
    unfold ordE at ho
    rw [Bool.and_eq_true, Bool.not_eq_true'] at ho
    rcases mem_lawRow k he with h | ⟨w, hw, ht, rfl⟩
    · rw [(isWr_iff k e).mpr h] at ho; cases ho.1
    · have := of_decide_eq_true ho.2
      refine ⟨w, hw, decide_eq_true ?_⟩
      unfold land; simp only at this; omega
  · rintro ⟨w, hw, ho⟩
    have h1 : t + n < land k w := of_decide_eq_true ho
    have ht : there k t w = false := decide_eq_false (by omega)
    refine ⟨_, under_mem k hw ht, ?_⟩
    unfold ordE isWr
    have e1 : ¬ (w.kind = k.z) := hz w hw
    simp only [e1, decide_false, Bool.not_false, Bool.true_and]
    unfold land at h1
    exact decide_eq_true (by omega)
theorem srcHeld_under {t : Int} {l : List (Wr κ)} (h : srcHeld k t l = true) : ∃ w ∈ l, there k t w = false := by
  unfold srcHeld at h
  cases hl : l.getLast? with
  | none => rw [hl] at h; cases h
  | some w =>
    rw [hl] at h
    refine ⟨w, List.mem_of_getLast? hl, ?_⟩
    simp only [Bool.and_eq_true, Bool.not_eq_true'] at h
    exact h.1
theorem ordW_under {t n : Int} {l : List (Wr κ)} (hn : 0 ≤ n) (h : l.any (ordW k t n) = true) : ∃ w ∈ l, there k t w = false := by
  obtain ⟨w, hw, ho⟩ := List.any_eq_true.mp h
  have h1 : t + n < land k w := of_decide_eq_true ho
  exact ⟨w, hw, decide_eq_false (by omega)⟩

/-- the law's word: whose result is read -/
def ready (t : Int) (w : Wr κ) : Bool := !there k t w && (match k.way w.kind with
  | none => false
  | some x => decide (x ≤ t - w.tick))
def readStep (t : Int) (f : Int) (w : Wr κ) : Int := if ready k t w then (if w.place > f then w.place else f) else f
def plc (o : Option (Wr κ)) : Int := match o with
  | none => -1
  | some w => w.place
def readOf (t : Int) (l : List (Wr κ)) : Int := l.foldl (readStep k t) (plc (lastL k t l))
def newest (l : List (Wr κ)) : Int := plc l.getLast?
theorem readStep_eq (t f : Int) (w : Wr κ) : readStep k t f w = if ready k t w then (if w.place > f then w.place else f) else f := rfl
theorem readFold_le (t : Int) : ∀ (l : List (Wr κ)) (f b : Int), f ≤ b → (∀ w ∈ l, w.place ≤ b) → l.foldl (readStep k t) f ≤ b
  | [], _, _, h, _ => h
  | w :: l, f, b, h, hb => by
    rw [List.foldl_cons]
    refine readFold_le t l _ b ?_ fun u hu => hb u (List.mem_cons_of_mem _ hu)
    unfold readStep
    have := hb w List.mem_cons_self
    split
    · split <;> omega
    · exact h
theorem plc_last_mem (t : Int) (l : List (Wr κ)) : plc (lastL k t l) = -1 ∨ ∃ v ∈ l, lastL k t l = some v := by
  rcases last_inv k t l with ⟨h1, _⟩ | ⟨pre, v, post, h1, h2, _⟩
  · left; rw [h1]; rfl
  · right; exact ⟨v, by rw [h1]; simp, h2⟩
theorem read_eq (t : Int) (l : List (Wr κ)) (hz : ∀ w ∈ l, w.kind ≠ k.z) (hp : l.Pairwise fun a b => a.place < b.place) (h0 : ∀ w ∈ l, 0 ≤ w.place) :
    decide (readOf k t l = newest l) = canRead k (topOf k t l) := by
  rcases List.eq_nil_or_concat l with rfl | ⟨pre, w, rfl⟩
  · simp [readOf, newest, lastL, plc, topOf, canRead]
  · rw [List.concat_eq_append] at *
    have hpre : ∀ u ∈ pre, u.place < w.place := fun u hu => (List.pairwise_append.mp hp).2.2 u hu w (by simp)
    have hw0 : 0 ≤ w.place := h0 w (by simp)
    have hwz := hz w (by simp)
    have e1 : newest (pre ++ [w]) = w.place := by
      unfold newest; rw [gl_snoc]; rfl
    have e2 : topOf k t (pre ++ [w]) = if there k t w = false then (w.kind, t - w.tick) else if lastL k t (pre ++ [w]) = some w then (k.z, 0) else (k.z, 1) := by
      unfold topOf; rw [gl_snoc]
    rw [e1, e2]
    unfold readOf
    rw [List.foldl_append]
    show decide (readStep k t (pre.foldl (readStep k t) (plc (lastL k t (pre ++ [w])))) w = w.place) = _
    have lastle : ∀ b : Int, -1 ≤ b → (∀ u ∈ pre, u.place ≤ b) → lastL k t (pre ++ [w]) ≠ some w → plc (lastL k t (pre ++ [w])) ≤ b := by
      intro b hb hu hne
      rcases plc_last_mem k t (pre ++ [w]) with h | ⟨v, hv, h⟩
      · omega
      · rw [h]
        rcases List.mem_append.mp hv with hv | hv
        · exact hu v hv
        · rw [List.mem_singleton] at hv; rw [hv] at h; exact absurd h hne
    cases hw : there k t w with
    | false =>
      have hne : lastL k t (pre ++ [w]) ≠ some w := fun e => by
        rcases last_inv k t (pre ++ [w]) with ⟨h1, _⟩ | ⟨_, v, _, _, h2, h3, _⟩
        · rw [h1] at e; cases e
        · rw [h2] at e; cases e; rw [hw] at h3; cases h3
      have hlt : pre.foldl (readStep k t) (plc (lastL k t (pre ++ [w]))) ≤ w.place - 1 := by
        refine readFold_le k t pre _ _ (lastle _ (by omega) (fun u hu => ?_) hne) fun u hu => ?_
        · have := hpre u hu; omega
        · have := hpre u hu; omega
      have er : ready k t w = canRead k (w.kind, t - w.tick) := by
        unfold ready canRead
        simp only [hw, hwz, if_false, Bool.not_false, Bool.true_and]
      simp only [if_true]
      rw [readStep_eq, er]
      cases canRead k (w.kind, t - w.tick) with
      | true =>
        simp only [if_true]
        rw [if_pos (by omega), decide_eq_true rfl]
      | false =>
        simp only [Bool.false_eq_true, if_false]
        exact decide_eq_false (by omega)
    | true =>
      simp only [Bool.true_eq_false, if_false]
      have er : ready k t w = false := by unfold ready; rw [hw]; rfl
      rw [readStep_eq, er]
      simp only [Bool.false_eq_true, if_false]
      by_cases h : lastL k t (pre ++ [w]) = some w
      · rw [if_pos h, h]
        have h1 : pre.foldl (readStep k t) (plc (some w)) ≤ w.place := readFold_le k t pre _ _ (Int.le_refl _) fun u hu => by have := hpre u hu; omega
        have h2 : ∀ (l : List (Wr κ)) (f : Int), f ≤ l.foldl (readStep k t) f := by
          intro l
          induction l with
          | nil => intro f; exact Int.le_refl _
          | cons a l ih =>
            intro f
            rw [List.foldl_cons]
            refine Int.le_trans ?_ (ih _)
            unfold readStep
            split
            · split <;> omega
            · exact Int.le_refl _
        have h3 := h2 pre (plc (some w))
        have h4 : plc (some w) = w.place := rfl
        rw [h4] at h1 h3
        have : pre.foldl (readStep k t) (plc (some w)) = w.place := by rw [h4]; omega
        rw [decide_eq_true this]
        simp [canRead]
      · rw [if_neg h]
        have hlt : pre.foldl (readStep k t) (plc (lastL k t (pre ++ [w]))) ≤ w.place - 1 := by
          refine readFold_le k t pre _ _ (lastle _ (by omega) (fun u hu => ?_) h) fun u hu => ?_
          · have := hpre u hu; omega
          · have := hpre u hu; omega
        rw [decide_eq_false (by omega)]
        simp [canRead]

/-! ### the end -/
theorem last_all (t u : Int) (l : List (Wr κ)) (ht : ∀ w ∈ l, there k t w = true) (hu : ∀ w ∈ l, there k u w = true) : lastL k t l = lastL k u l := by
  have key : ∀ (l : List (Wr κ)) (f : Option (Wr κ)), (∀ w ∈ l, there k t w = true) → (∀ w ∈ l, there k u w = true) → l.foldl (lastStep k t) f = l.foldl (lastStep k u) f := by
    intro l
    induction l with
    | nil => intro f _ _; rfl
    | cons a l ih =>
      intro f h1 h2
      rw [List.foldl_cons, List.foldl_cons]
      have : lastStep k t f a = lastStep k u f a := by
        unfold lastStep; rw [h1 a List.mem_cons_self, h2 a List.mem_cons_self]
      rw [this]
      exact ih _ (fun w hw => h1 w (List.mem_cons_of_mem _ hw)) fun w hw => h2 w (List.mem_cons_of_mem _ hw)
  exact key l none ht hu
theorem all_there (t : Int) (l : List (Wr κ)) (hz : ∀ w ∈ l, w.kind ≠ k.z) : ((lawRow k t l).any fun e => !(isWr k e)) = false ↔ ∀ w ∈ l, there k t w = true := by
  constructor
  · intro h w hw
    cases hh : there k t w with
    | true => rfl
    | false =>
      have := under_mem k hw hh
      have h2 : (lawRow k t l).any (fun e => !(isWr k e)) = true := List.any_eq_true.mpr ⟨_, this, by
        have : isWr k (w.kind, t - w.tick) = false := by
          rw [← Bool.not_eq_true, isWr_iff]; exact hz w hw
        rw [this]; rfl⟩
      rw [h] at h2; cases h2
  · intro h
    rw [← Bool.not_eq_true, List.any_eq_true]
    rintro ⟨e, he, hn⟩
    rcases mem_lawRow k he with h1 | ⟨w, hw, ht, _⟩
    · rw [(isWr_iff k e).mpr h1] at hn; cases hn
    · rw [h w hw] at ht; cases ht
theorem end_eq (t u : Int) (l : List (Wr κ)) (ht : ∀ w ∈ l, there k t w = true) (hu : ∀ w ∈ l, there k u w = true) (hp : l.Pairwise fun a b => a.place < b.place) (h0 : ∀ w ∈ l, 0 ≤ w.place) :
    decide (topOf k t l = (k.z, 0)) = decide (plc (lastL k u l) = newest l) := by
  rw [last_all k u t l hu ht]
  unfold topOf newest
  cases hl : l.getLast? with
  | none =>
    have : l = [] := List.getLast?_eq_none_iff.mp hl
    subst this
    simp [lastL, plc]
  | some w =>
    have hw := List.mem_of_getLast? hl
    simp only [ht w hw, Bool.true_eq_false, if_false]
    by_cases h : lastL k t l = some w
    · rw [if_pos h, h]; simp
    · rw [if_neg h]
      have h1 : ¬ ((k.z, (1 : Int)) = (k.z, 0)) := fun e => by have := congrArg Prod.snd e; simp at this
      rw [decide_eq_false h1]
      symm
      refine decide_eq_false fun e => ?_
      rcases plc_last_mem k t l with h2 | ⟨v, hv, h2⟩
      · have := h0 w hw
        rw [h2] at e
        have e' : (-1 : Int) = w.place := e
        omega
      · rw [h2] at e h
        have e' : v.place = w.place := e
        have hne : v ≠ w := fun z => h (by rw [z])
        obtain ⟨pre, rfl⟩ : ∃ pre, l = pre ++ [w] := by
          rcases List.eq_nil_or_concat l with rfl | ⟨pre, x, rfl⟩
          · cases hw
          · rw [List.concat_eq_append, gl_snoc] at hl
            have hl := Option.some.inj hl; subst hl; exact ⟨pre, List.concat_eq_append⟩
        rcases List.mem_append.mp hv with hv | hv
        · have := (List.pairwise_append.mp hp).2.2 v hv w (by simp)
          omega
        · rw [List.mem_singleton] at hv; exact hne hv
end
end K3
namespace K3
open PySem PySem.Spec PyProof.Rows L2
def top (i : Nat) : Stmt := PySem.Challenge.pw_beatwires_k03_whole_standings.main.body.getD i (.Pass ⟨0, 0, 0, 0⟩)
abbrev sNum : Stmt := top 4
abbrev sCan : Stmt := top 11
abbrev sHeld : Stmt := top 12
abbrev sGrown : Stmt := top 13
abbrev sAged : Stmt := top 14
abbrev sEnded : Stmt := top 15
abbrev sPut : Stmt := top 16
abbrev sInit : Stmt := inClass (top 26) 0
abbrev sStart : Stmt := inClass (top 26) 3
abbrev sFollow : Stmt := inClass (top 26) 4
abbrev sLater : Stmt := inClass (top 26) 5
abbrev sEnds : Stmt := inClass (top 26) 6
abbrev sAreK : Stmt := top 27
abbrev sIsKW : Stmt := top 5
abbrev sIsK : Stmt := top 28
abbrev sDraw : Stmt := top 30
abbrev sSet : Stmt := top 31
abbrev sPipe : Stmt := top 32
abbrev sRows : Stmt := top 33
abbrev sThere : Stmt := top 34
abbrev sLast : Stmt := top 35
abbrev sLHeld : Stmt := top 36
abbrev sRead : Stmt := top 37
abbrev sStand : Stmt := top 38
abbrev sNewest : Stmt := top 39
abbrev sLaw : Stmt := top 40

/-! ### lists of values that tell lists of data -/
def Al {α : Type} (R : V → α → Prop) (xs : List V) (ds : List α) : Prop := xs.length = ds.length ∧ ∀ (i : Nat) (x : V) (d : α), xs[i]? = some x → ds[i]? = some d → R x d
section
variable {α : Type} {R S : V → α → Prop} {xs ys : List V} {ds es : List α}
theorem Al.nil : Al R [] [] := ⟨rfl, fun i x d h => by simp at h⟩
theorem Al.mono (h : Al R xs ds) (f : ∀ x d, R x d → S x d) : Al S xs ds := ⟨h.1, fun i x d a b => f x d (h.2 i x d a b)⟩
theorem Al.snoc (h : Al R xs ds) {x : V} {d : α} (r : R x d) : Al R (xs ++ [x]) (ds ++ [d]) := by
  refine ⟨by simp [h.1], fun i y e a b => ?_⟩
  by_cases hi : i < xs.length
  · rw [List.getElem?_append_left hi] at a
    rw [List.getElem?_append_left (by rw [← h.1]; exact hi)] at b
    exact h.2 i y e a b
  · rw [List.getElem?_append_right (by omega)] at a
    rw [List.getElem?_append_right (by rw [← h.1]; omega), ← h.1] at b
    cases q : i - xs.length with
    | zero => rw [q] at a b; simp at a b; subst a; subst b; exact r
    | succ n => rw [q] at a; simp at a
theorem Al.one {x : V} {d : α} (r : R x d) : Al R [x] [d] := Al.snoc Al.nil r
theorem Al.append (h : Al R xs ds) (h' : Al R ys es) : Al R (xs ++ ys) (ds ++ es) := by
  refine ⟨by simp [h.1, h'.1], fun i y e a b => ?_⟩
  by_cases hi : i < xs.length
  · rw [List.getElem?_append_left hi] at a
    rw [List.getElem?_append_left (by rw [← h.1]; exact hi)] at b
    exact h.2 i y e a b
  · rw [List.getElem?_append_right (by omega)] at a
    rw [List.getElem?_append_right (by rw [← h.1]; omega), ← h.1] at b
    exact h'.2 _ y e a b
theorem Al.at (h : Al R xs ds) {i : Nat} {x : V} (a : xs[i]? = some x) : ∃ d, ds[i]? = some d ∧ R x d := by
  have hi := (List.getElem?_eq_some_iff.mp a).1
  rw [h.1] at hi
  exact ⟨ds[i], List.getElem?_eq_getElem hi, h.2 i x _ a (List.getElem?_eq_getElem hi)⟩
theorem Al.at' (h : Al R xs ds) {i : Nat} {d : α} (a : ds[i]? = some d) : ∃ x, xs[i]? = some x ∧ R x d := by
  have hi := (List.getElem?_eq_some_iff.mp a).1
  rw [← h.1] at hi
  exact ⟨xs[i], List.getElem?_eq_getElem hi, h.2 i _ d (List.getElem?_eq_getElem hi) a⟩
theorem Al.split (h : Al R xs ds) {e : α} {es : List α} (q : ds = es ++ [e]) : ∃ ys y, xs = ys ++ [y] ∧ Al R ys es ∧ R y e := by
  subst q
  have hl := h.1
  rcases List.eq_nil_or_concat xs with rfl | ⟨ys, y, rfl⟩
  · simp at hl
  · rw [List.concat_eq_append] at *
    simp at hl
    refine ⟨ys, y, rfl, ⟨hl, fun i x d a b => ?_⟩, ?_⟩
    · have hi := (List.getElem?_eq_some_iff.mp a).1
      refine h.2 i x d (by rw [List.getElem?_append_left hi]; exact a) (by rw [List.getElem?_append_left (by omega)]; exact b)
    · refine h.2 ys.length y e (by simp) (by rw [hl]; simp)
end

/-! ### heaps: new objects -/
/-- tuples stay -/
def Tups (H H' : Hp) : Prop := ∀ b xs, H b = some (.tup xs) → H' b = some (.tup xs)
theorem _root_.L2.Same.tups {H H' : Hp} (s : Same H H') : Tups H H' := fun b xs h => s b _ h
theorem Tups.refl (H : Hp) : Tups H H := fun _ _ h => h
theorem Tups.trans {H H1 H2 : Hp} (a : Tups H H1) (b : Tups H1 H2) : Tups H H2 := fun c xs h => b c xs (a c xs h)
theorem same_upd {H : Hp} {p : Addr} {o : HO} (h : H p = none) : Same H (upd H p o) := fun b x e => by
  rw [upd_ne (ne_of_none e h)]
  exact e
/-- all but c stays -/
def But (c : Addr) (H H' : Hp) : Prop := ∀ b o, b ≠ c → H b = some o → H' b = some o
theorem _root_.L2.Same.but {H H' : Hp} (s : Same H H') (c : Addr) : But c H H' := fun b o _ h => s b o h
theorem But.trans {c : Addr} {H H1 H2 : Hp} (a : But c H H1) (b : But c H1 H2) : But c H H2 := fun d o n h => b d o n (a d o n h)
theorem but_upd {c : Addr} {H : Hp} {o : HO} : But c H (upd H c o) := fun b x n e => by rw [upd_ne n]; exact e
theorem But.same {c : Addr} {H H' : Hp} (s : But c H H') (hc : H c = none) : Same H H' := fun b o e => s b o (fun z => by rw [z, hc] at e; cases e) e
/-- a mutable list at l, changed: what did not know l stays -/
theorem _root_.L2.Same.mut {H H' : Hp} {l : Addr} {o : HO} (s : Same H H') (h : H l = none) : Same H (upd H' l o) := fun b x e => by
  rw [upd_ne (ne_of_none e h)]
  exact s b x e

/-! ### data: entries, standings, instructions, writers, kinds -/
abbrev E := Str × Int
def EnAt (H : Hp) (v : V) (e : E) : Prop := ∃ a, v = .ref a ∧ H a = some (.tup [.str e.1, .int e.2])
def EnsAt (H : Hp) (v : V) (es : List E) : Prop := ∃ a xs, v = .ref a ∧ H a = some (.tup xs) ∧ Al (EnAt H) xs es
def StAt (H : Hp) (v : V) (st : List (List E)) : Prop := ∃ a xs, v = .ref a ∧ H a = some (.tup xs) ∧ Al (EnsAt H) xs st
theorem EnAt.mono {H H' : Hp} (t : Tups H H') {v : V} {e : E} (h : EnAt H v e) : EnAt H' v e := let ⟨a, h1, h2⟩ := h; ⟨a, h1, t _ _ h2⟩
theorem EnsAt.mono {H H' : Hp} (t : Tups H H') {v : V} {e : List E} (h : EnsAt H v e) : EnsAt H' v e := let ⟨a, xs, h1, h2, h3⟩ := h; ⟨a, xs, h1, t _ _ h2, h3.mono fun _ _ => EnAt.mono t⟩
theorem StAt.mono {H H' : Hp} (t : Tups H H') {v : V} {e : List (List E)} (h : StAt H v e) : StAt H' v e := let ⟨a, xs, h1, h2, h3⟩ := h; ⟨a, xs, h1, t _ _ h2, h3.mono fun _ _ => EnsAt.mono t⟩
structure Ins where
  kind : Str
  goal : Int
  srcs : List Int
def InAt (H : Hp) (v : V) (i : Ins) : Prop := ∃ a b, v = .ref a ∧ H a = some (.tup [.str i.kind, .int i.goal, .ref b]) ∧ H b = some (.tup (i.srcs.map V.int))
theorem InAt.mono {H H' : Hp} (t : Tups H H') {v : V} {e : Ins} (h : InAt H v e) : InAt H' v e := let ⟨a, b, h1, h2, h3⟩ := h; ⟨a, b, h1, t _ _ h2, t _ _ h3⟩
abbrev W := Wr Str
def WrAt (H : Hp) (v : V) (w : W) : Prop := ∃ a, v = .ref a ∧ H a = some (.tup [.int w.place, .str w.kind, .int w.goal, .int w.tick])
theorem WrAt.mono {H H' : Hp} (t : Tups H H') {v : V} {e : W} (h : WrAt H v e) : WrAt H' v e := let ⟨a, h1, h2⟩ := h; ⟨a, h1, t _ _ h2⟩
/-- what is told of a kind -/
structure KI where
  srcs : Int
  len : Int
  way : Option Int
def oV : Option Int → V
  | none => .non
  | some i => .int i
abbrev KT := List (Str × KI)
def kiAt (H : Hp) (p : Key × V) (q : Str × KI) : Prop := p.1 = .inr q.1 ∧ ∃ t, p.2 = .ref t ∧ H t = some (.tup [.int q.2.srcs, .int q.2.len, oV q.2.way])
def find (ks : KT) (x : Str) : Option KI := (ks.find? fun p => decide (p.1 = x)).map (·.2)
/-- a dict of kinds, told by its pairs -/
def KvOk (H : Hp) : List (Key × V) → KT → Prop
  | [], [] => True
  | p :: kvs, q :: ks => kiAt H p q ∧ KvOk H kvs ks
  | _, _ => False
theorem KvOk.mono {H H' : Hp} (t : Tups H H') : ∀ {kvs : List (Key × V)} {ks : KT}, KvOk H kvs ks → KvOk H' kvs ks
  | [], [], _ => True.intro
  | _ :: _, _ :: _, ⟨⟨h1, a, h2, h3⟩, h4⟩ => ⟨⟨h1, a, h2, t _ _ h3⟩, KvOk.mono t h4⟩
  | [], _ :: _, h => h.elim
  | _ :: _, [], h => h.elim
theorem KvOk.get {H : Hp} {x : Str} {i : KI} : ∀ {kvs : List (Key × V)} {ks : KT}, KvOk H kvs ks → find ks x = some i → ∃ t, valV kvs (Sum.inr x : Key) = some (.ref t) ∧ H t = some (.tup [.int i.srcs, .int i.len, oV i.way])
  | [], [], _, h => by simp [find] at h
  | p :: kvs, q :: ks, ⟨⟨h1, a, h2, h3⟩, h4⟩, h => by
    by_cases e : q.1 = x
    · refine ⟨a, ?_, ?_⟩
      · unfold valV
        rw [List.find?_cons_of_pos (by rw [h1, e]; exact decide_eq_true rfl)]
        rw [Option.map_some, h2]
      · unfold find at h
        rw [List.find?_cons_of_pos (by rw [e]; exact decide_eq_true rfl)] at h
        cases h
        exact h3
    · have h' : find ks x = some i := by
        unfold find at h ⊢
        rwa [List.find?_cons_of_neg (by rw [decide_eq_false e]; exact Bool.false_ne_true)] at h
      obtain ⟨t, h5, h6⟩ := KvOk.get h4 h'
      refine ⟨t, ?_, h6⟩
      unfold valV at h5 ⊢
      rwa [List.find?_cons_of_neg (by
        have : ¬ p.1 = Sum.inr x := fun z => by rw [h1] at z; exact e (Sum.inr.inj z)
        rw [decide_eq_false this]; exact Bool.false_ne_true)]
  | [], _ :: _, h, _ => h.elim
  | _ :: _, [], h, _ => h.elim
def KdAt (H : Hp) (a : Addr) (ks : KT) : Prop := ∃ kvs, Rd H a (.dK kvs) ∧ KvOk H kvs ks
/-- the mathematics' word of the kinds -/
def kd (ks : KT) : Kd Str := ⟨"", fun x => ((find ks x).map (·.len)).getD 1, fun x => (find ks x).bind (·.way)⟩
theorem kd_z (ks : KT) : (kd ks).z = "" := rfl
theorem kd_len {ks : KT} {x : Str} {i : KI} (h : find ks x = some i) : (kd ks).len x = i.len := by show ((find ks x).map (·.len)).getD 1 = _; rw [h]; rfl
theorem kd_way {ks : KT} {x : Str} {i : KI} (h : find ks x = some i) : (kd ks).way x = i.way := by show (find ks x).bind (·.way) = _; rw [h]; rfl
/-- a word that is known -/
def Kn (ks : KT) (x : Str) : Prop := ∃ i, find ks x = some i
/-- the kinds are told well: no kind is called as what is written -/
structure KOk (ks : KT) : Prop where
  no : find ks "" = none
  len : ∀ x i, find ks x = some i → 1 ≤ i.len ∧ i.len ≤ 4
  str : ∀ x i, find ks x = some i → PyData.strOk x = true

/-! ### terms -/
section
variable {X : Cx}
theorem pgl {x : Str} {v : V} {pos : Pos} (h : ∃ u, X.mg x = some u ∧ RelV v u) (hg : Gl X x := by rfl) (hd : (x == ("__debug__" : Str)) = false := by decide) : PE X (.Name x pos) (tC v) := by
  obtain ⟨u, h1, h2⟩ := h
  exact pe_glob hg h1 h2 hd
end
/-- names of the top that no def changes -/
structure Txt (K : PySem.W.Frag) (mg : Str → Option Value) : Prop where
  W : ∃ u, mg "WRITTEN" = some u ∧ RelV (.str "") u
  P : ∃ u, mg "PRESENT" = some u ∧ RelV (.int 0) u
  G : ∃ u, mg "GONE" = some u ∧ RelV (.int 1) u
  J : ∃ u, mg "JUST" = some u ∧ RelV (.int 2) u
  L : ∃ u, mg "LETTERS" = some u ∧ RelV (.str "abcdefghijklmnopqrstuvwxyz") u
  m1 : ∃ u, mg "MOST_REGISTERS" = some u ∧ RelV (.int 4) u
  m2 : ∃ u, mg "MOST_KINDS" = some u ∧ RelV (.int 4) u
  m3 : ∃ u, mg "MOST_SOURCES" = some u ∧ RelV (.int 2) u
  m4 : ∃ u, mg "LONGEST" = some u ∧ RelV (.int 4) u
  m5 : ∃ u, mg "LONGEST_WORD" = some u ∧ RelV (.int 8) u
  isinst : mg "isinstance" = none
  int : mg "int" = none
  bool : mg "bool" = none
  str : mg "str" = none
  tuple : mg "tuple" = none
  dict : mg "dict" = none
  list : mg "list" = none
  len : mg "len" = none
  all : mg "all" = none
  any : mg "any" = none
  max : mg "max" = none
  sorted : mg "sorted" = none
  enumerate : mg "enumerate" = none
  range : mg "range" = none
theorem kz (ks : KT) (e : E) : decide (e.1 = "") = decide (e.1 = (kd ks).z) := rfl
end K3
namespace K3
open PySem PySem.Spec PyProof.Rows L2
section
variable {P : Program} {w : World} {K : PySem.W.Frag} {mg : Str → Option Value} {base : Heap}
/-! ### is_number: of ints -/
def spNum : Sp := fun vs H Q _ => ∃ i : Int, vs = [.int i] ∧ Q (.bl true) H
theorem scNum : FnScope ["thing"] ["thing"] (defScope sNum) := ⟨rfl, rfl, rfl, by decide +kernel, rfl, by decide +kernel, by decide +kernel⟩
theorem ok_num {f : Addr} {fd : FuncData} (F : Fun K "is_number" "is_number" sNum f fd) (T : Txt K mg) : FnOk P w K mg base CX0 1 f fd ["thing"] spNum := by
  refine F.ok scNum (fun vs H Q E h => ?_) (fun cdv A outer s H vs Q E hr h => ?_)
  · obtain ⟨i, rfl, _⟩ := h
    rfl
  · obtain ⟨i, rfl, k⟩ := h
    refine ⟨_, pss_one (ps_ret (pe_and (pe_callB call_isi (by rfl) T.isinst (by decide +kernel) (pa_cons (pv 0) (pa_cons (pe_bltn (v := .ty "int") (by rfl) T.int (by decide +kernel) rfl) pa_nil)))
      (pe_one (pe_not (pe_callB call_isi (by rfl) T.isinst (by decide +kernel) (pa_cons (pv 0) (pa_cons (pe_bltn (v := .ty "bool") (by rfl) T.bool (by decide +kernel) rfl) pa_nil))))))), ?_⟩
    refine ⟨_, rfl, .int i, .ty "int", .type "int", .type "int", true, rfl, .ty "int", .base (.int i), kit_ty (by decide +kernel), true, rfl, ?_⟩
    refine iteT ?_
    refine ⟨_, rfl, .int i, .ty "bool", .type "int", .type "bool", false, rfl, .ty "bool", .base (.int i), kit_ty (by decide +kernel), false, rfl, ?_⟩
    exact k

/-! ### can_be_read -/
def spCan (ks : KT) : Sp := fun vs H Q _ => ∃ (a : Addr) (v : V) (e : E), vs = [.ref a, v] ∧ KdAt H a ks ∧ EnAt H v e ∧ (e.1 = "" ∨ Kn ks e.1) ∧ Q (.bl (canRead (kd ks) e)) H
theorem scCan : FnScope ["kinds", "entry", "way"] ["kinds", "entry"] (defScope sCan) := ⟨rfl, rfl, rfl, by decide +kernel, rfl, by decide +kernel, by decide +kernel⟩
theorem ok_can {ks : KT} {f : Addr} {fd : FuncData} (F : Fun K "can_be_read" "can_be_read" sCan f fd) (T : Txt K mg) : FnOk P w K mg base CX0 1 f fd ["kinds", "entry"] (spCan ks) := by
  refine F.ok scCan (fun vs H Q E h => ?_) (fun cdv A outer s H vs Q E hr h => ?_)
  · obtain ⟨a, v, e, rfl, _⟩ := h
    rfl
  · obtain ⟨a, v, e, rfl, ⟨kvs, hk, hkv⟩, ⟨b, rfl, hb⟩, hkn, k⟩ := h
    have hu := hu_of hr
    refine ⟨_, pss_cons (ps_if (pt_cmpR op_eq (pe_ix ix_tup (pv 1) pe_int (fun _ _ => rfl)) (pgl T.W) (nomark _))
        (pss_one (ps_ret (pe_cmpR op_eq (pe_ix ix_tup (pv 1) pe_int (fun _ _ => rfl)) (pgl T.P) (nomark _)))) pss_nil)
      (pss_cons (ps_set (i := 2) scCan.nd rfl (.inl rfl) (pe_ix ix_tup (pe_dget hu (pv 0) (pe_ix ix_tup (pv 1) pe_int (fun _ _ => rfl)) (fun _ _ => rfl)) pe_int (fun _ _ => rfl)))
      (pss_one (ps_ret (pe_and (pe_cmp (pc_notN (pv 2)) rfl) (pe_one (pe_cmpR op_ge (pe_ix ix_tup (pv 1) pe_int (fun _ _ => rfl)) (pv 2) (nomark _))))))), ?_⟩
    refine ⟨_, rfl, b, _, 0, _, rfl, rfl, SqT.of hb, rfl, rfl, _, rfl, ?_⟩
    by_cases hz : e.1 = ""
    · have c1 : decide ((V.str e.1) = V.str "") = true := decide_eq_true (congrArg V.str hz)
      rw [c1]
      refine iteT ?_
      refine ⟨_, rfl, b, _, 1, _, rfl, rfl, SqT.of hb, rfl, rfl, ?_⟩
      have c2 : decide ((V.int e.2) = V.int 0) = canRead (kd ks) e := by
        unfold canRead
        rw [if_pos (show e.1 = (kd ks).z from hz)]
        by_cases h0 : e.2 = 0
        · rw [decide_eq_true h0, decide_eq_true (congrArg V.int h0)]
        · rw [decide_eq_false h0, decide_eq_false (fun q => h0 (V.int.inj q))]
      rw [c2]
      exact k
    · have c1 : decide ((V.str e.1) = V.str "") = false := decide_eq_false fun q => hz (V.str.inj q)
      rw [c1]
      refine iteF ?_
      obtain ⟨i, hi⟩ := hkn.resolve_left hz
      obtain ⟨t, ht, hti⟩ := hkv.get hi
      refine ⟨_, rfl, _, rfl, b, _, 0, _, rfl, rfl, SqT.of hb, rfl, a, .ref t, rfl, ?_, t, _, 2, _, rfl, rfl, SqT.of hti, rfl, ?_⟩
      · rw [← ht]; exact .inl ⟨kvs, Sum.inr e.1, hk, rfl, rfl⟩
      refine ⟨_, rfl, _, rfl, ?_⟩
      have c3 : canRead (kd ks) e = match i.way with
          | none => false
          | some x => decide (x ≤ e.2) := by
        unfold canRead
        rw [if_neg (show ¬ e.1 = (kd ks).z from hz), kd_way hi]
        all_goals (cases i.way <;> rfl)
      rw [c3] at k
      cases hw : i.way with
      | none =>
        rw [hw] at k
        exact iteF k
      | some x =>
        rw [hw] at k
        refine iteT ?_
        exact ⟨_, rfl, b, _, 1, _, rfl, rfl, SqT.of hb, rfl, _, rfl, e.2, x, rfl, rfl, k⟩
end
end K3
namespace K3
open PySem PySem.Spec PyProof.Rows L2
theorem cut2 (x y : V) : cutV [x, y] (some 2) none = [] := rfl
section
variable {P : Program} {w : World} {K : PySem.W.Frag} {mg : Str → Option Value} {base : Heap}
/-! ### grown -/
def spGrown (ks : KT) : Sp := fun vs H Q _ => ∃ (a : Addr) (v : V) (e : E), vs = [.ref a, v] ∧ KdAt H a ks ∧ EnAt H v e ∧ (e.1 = "" ∨ Kn ks e.1) ∧ ∀ v' H', Same H H' → EnAt H' v' (grown (kd ks) e) → Q v' H'
theorem scGrown : FnScope ["kinds", "entry", "kind", "age"] ["kinds", "entry"] (defScope sGrown) := ⟨rfl, rfl, rfl, by decide +kernel, rfl, by decide +kernel, by decide +kernel⟩
theorem ok_grown {ks : KT} {f : Addr} {fd : FuncData} (F : Fun K "grown" "grown" sGrown f fd) (T : Txt K mg) : FnOk P w K mg base CX0 1 f fd ["kinds", "entry"] (spGrown ks) := by
  refine F.ok scGrown (fun vs H Q E h => ?_) (fun cdv A outer s H vs Q E hr h => ?_)
  · obtain ⟨a, v, e, rfl, _⟩ := h
    rfl
  · obtain ⟨a, v, e, rfl, ⟨kvs, hk, hkv⟩, ⟨b, rfl, hb⟩, hkn, k⟩ := h
    have hu := hu_of hr
    have nd := scGrown.nd
    refine ⟨_, pss_cons (ps_par (i := 2) (j := 3) (by rfl) nd rfl rfl (by decide) rfl rfl (pa_cons (pe_ix ix_tup (pv 1) pe_int (fun _ _ => rfl)) (pa_cons (pe_ix ix_tup (pv 1) pe_int (fun _ _ => rfl)) pa_nil)) (by rfl))
      (pss_cons (ps_if (pt_cmpR op_eq (pv 2) (pgl T.W) (nomark _)) (pss_one (ps_ret (pv 1))) pss_nil)
      (pss_cons (ps_if (pt_cmpR op_lt (pe_op op_add (pv 3) pe_int) (pe_ix ix_tup (pe_dget hu (pv 0) (pv 2) (fun _ _ => rfl)) pe_int (fun _ _ => rfl)) (nomark _))
        (pss_one (ps_ret (pe_op op_catA (pe_tup (pa_cons (pv 2) (pa_cons (pe_op op_add (pv 3) pe_int) pa_nil))) (pe_slice sl_tupA (pv 1) (po_some pe_int) po_none)))) pss_nil)
      (pss_one (ps_ret (pe_op op_catA (pe_tup (pa_cons (pgl T.W) (pa_cons (pgl T.J) pa_nil))) (pe_slice sl_tupA (pv 1) (po_some pe_int) po_none)))))), ?_⟩
    refine ⟨_, rfl, b, _, 0, _, rfl, rfl, SqT.of hb, rfl, _, rfl, b, _, 1, _, rfl, rfl, SqT.of hb, rfl, _, _, rfl, ?_⟩
    refine ⟨_, rfl, rfl, _, rfl, ?_⟩
    by_cases hz : e.1 = ""
    · rw [show decide ((V.str e.1) = V.str "") = true from decide_eq_true (congrArg V.str hz)]
      refine iteT ?_
      refine ⟨_, rfl, k _ H (Same.refl H) ⟨b, rfl, ?_⟩⟩
      have : grown (kd ks) e = e := by unfold grown; rw [if_pos (show e.1 = (kd ks).z from hz)]
      rw [this]; exact hb
    · rw [show decide ((V.str e.1) = V.str "") = false from decide_eq_false fun q => hz (V.str.inj q)]
      refine iteF ?_
      obtain ⟨i, hi⟩ := hkn.resolve_left hz
      obtain ⟨t, ht, hti⟩ := hkv.get hi
      have eg : grown (kd ks) e = if e.2 + 1 < i.len then (e.1, e.2 + 1) else ("", 2) := by
        unfold grown; rw [if_neg (show ¬ e.1 = (kd ks).z from hz), kd_len hi]; rfl
      refine ⟨_, rfl, _, _, rfl, rfl, _, rfl, _, rfl, a, .ref t, rfl, ?_, t, _, 1, _, rfl, rfl, SqT.of hti, rfl, _, _, rfl, rfl, _, rfl, ?_⟩
      · rw [← ht]; exact .inl ⟨kvs, Sum.inr e.1, hk, rfl, rfl⟩
      by_cases hl : e.2 + 1 < i.len
      · rw [decide_eq_true hl]
        refine iteT ?_
        rw [if_pos hl] at eg
        refine ⟨_, rfl, _, rfl, _, _, rfl, rfl, (by show 2 ≤ sizeLine; decide), fun p np => ?_⟩
        have s1 := same_upd (o := HO.tup [V.str e.1, V.int (e.2 + 1)]) np
        refine ⟨_, rfl, 2, rfl, b, _, rfl, SqT.of (s1 _ _ hb), fun z => absurd z.1 (by show ¬ HT.sIx 2 0 (some 2) = 0; decide), fun _ q nq => ?_⟩
        have s2 := same_upd (o := HO.tup (cutV [V.str e.1, V.int e.2] (some 2) none)) nq
        refine ⟨p, q, _, _, rfl, rfl, SqT.of (s2 _ _ upd_same), SqT.of upd_same, (by show 2 + 0 ≤ sizeLine; decide), fun z => (nomatch z), fun _ _ => k _ _ (s1.trans s2) ⟨p, rfl, ?_⟩, fun _ z => absurd (cut2 _ _) z⟩
        rw [eg]; exact s2 _ _ upd_same
      · rw [decide_eq_false hl]
        refine iteF ?_
        rw [if_neg hl] at eg
        refine ⟨(by show 2 ≤ sizeLine; decide), fun p np => ?_⟩
        have s1 := same_upd (o := HO.tup [V.str "", V.int 2]) np
        refine ⟨_, rfl, 2, rfl, b, _, rfl, SqT.of (s1 _ _ hb), fun z => absurd z.1 (by show ¬ HT.sIx 2 0 (some 2) = 0; decide), fun _ q nq => ?_⟩
        have s2 := same_upd (o := HO.tup (cutV [V.str e.1, V.int e.2] (some 2) none)) nq
        refine ⟨p, q, _, _, rfl, rfl, SqT.of (s2 _ _ upd_same), SqT.of upd_same, (by show 2 + 0 ≤ sizeLine; decide), fun z => (nomatch z), fun _ _ => k _ _ (s1.trans s2) ⟨p, rfl, ?_⟩, fun _ z => absurd (cut2 _ _) z⟩
        rw [eg]; exact s2 _ _ upd_same
end
end K3
namespace K3
open PySem PySem.Spec PyProof.Rows L2
/-! ### tuples read and made, with what stood before kept -/
theorem sz {n : Nat} (h : n ≤ 100000) : n ≤ sizeLine := Nat.le_trans h (by decide)
theorem szl {n : Nat} (h : n ≤ 100000) : n < sizeLine := Nat.lt_of_le_of_lt h (by decide)
section
variable {K : PySem.W.Frag} {H : Hp} {Q : VK} {a b : Addr} {xs ys : List V}
@[irreducible] def rTup (xs : List V) (H : Hp) (Q : VK) : Prop := xs.length ≤ sizeLine ∧ ∀ p, H p = none → Q (.ref p) (upd H p (.tup xs))
@[irreducible] def rLst (xs : List V) (H : Hp) (Q : VK) : Prop := xs.length ≤ sizeLine ∧ ∀ p, H p = none → Q (.ref p) (upd H p (.lst xs))
theorem rd_tup (hl : xs.length ≤ 100000) (k : ∀ p H', Same H H' → H' p = some (.tup xs) → Q (.ref p) H') : rTup xs H Q := by
  unfold rTup
  exact ⟨sz hl, fun p hp => k p _ (same_upd hp) upd_same⟩
theorem rd_lst (hl : xs.length ≤ 100000) (k : ∀ p H', H p = none → Same H H' → H' p = some (.lst xs) → Q (.ref p) H') : rLst xs H Q := by
  unfold rLst
  exact ⟨sz hl, fun p hp => k p _ hp (same_upd hp) upd_same⟩
theorem rd_t0 (k : ∀ p H', Same H H' → H' p = some (.tup []) → Q (.ref p) H') : rTup [] H Q := rd_tup (by decide) k
theorem rd_t1 {x : V} (k : ∀ p H', Same H H' → H' p = some (.tup [x]) → Q (.ref p) H') : rTup [x] H Q := rd_tup (by show 1 ≤ 100000; decide) k
theorem rd_t2 {x y : V} (k : ∀ p H', Same H H' → H' p = some (.tup [x, y]) → Q (.ref p) H') : rTup [x, y] H Q := rd_tup (by show 2 ≤ 100000; decide) k
theorem rd_t3 {x y z : V} (k : ∀ p H', Same H H' → H' p = some (.tup [x, y, z]) → Q (.ref p) H') : rTup [x, y, z] H Q := rd_tup (by show 3 ≤ 100000; decide) k
theorem rd_t4 {x y z u : V} (k : ∀ p H', Same H H' → H' p = some (.tup [x, y, z, u]) → Q (.ref p) H') : rTup [x, y, z, u] H Q := rd_tup (by show 4 ≤ 100000; decide) k
theorem rd_l0 (k : ∀ p H', H p = none → Same H H' → H' p = some (.lst []) → Q (.ref p) H') : rLst [] H Q := rd_lst (by decide) k
theorem rd_l1 {x : V} (k : ∀ p H', H p = none → Same H H' → H' p = some (.lst [x]) → Q (.ref p) H') : rLst [x] H Q := rd_lst (by show 1 ≤ 100000; decide) k
theorem ptup {X : Cx} {es : List Expr} {t : TA} {x1 : Nat} {pos : Pos} (h : PA X es t) : PE X (.Tuple es x1 pos) (fun σ H Q => t σ H fun xs H1 => rTup xs H1 Q) := by
  unfold rTup
  exact pe_tup h
theorem plst {X : Cx} {es : List Expr} {t : TA} {pos : Pos} (h : PA X es t) : PE X (.List es pos) (fun σ H Q => t σ H fun xs H1 => rLst xs H1 Q) := by
  unfold rLst
  exact pe_lst h
@[irreducible] def rCat (K : PySem.W.Frag) : R2 := rCatA K
@[irreducible] def rSlt (K : PySem.W.Frag) : V → Option Int → Option Int → Hp → VK → Prop := rSlA K
theorem op_cat' {X : Cx} : OpR X (binaryOp .Add) (rCat X.K) := by
  unfold rCat
  exact op_catA
theorem sl_t' {X : Cx} : SlR X (rSlt X.K) := by
  unfold rSlt
  exact sl_tupA
theorem ixT {X : Cx} (K : PySem.W.Frag) (h : X.K = K := by rfl) : IxR X (rIxT K) := h ▸ ix_tup
theorem catT {X : Cx} (K : PySem.W.Frag) (h : X.K = K := by rfl) : OpR X (binaryOp .Add) (rCat K) := h ▸ op_cat'
theorem slT {X : Cx} (K : PySem.W.Frag) (h : X.K = K := by rfl) : SlR X (rSlt K) := h ▸ sl_t'
theorem eqDK {X : Cx} (K : PySem.W.Frag) (hu : X.A.units + 64 < cLine) (h : X.K = K := by rfl) : OpR X (compareOp .Eq) (rEqD K) := h ▸ op_eqD hu
theorem neDK {X : Cx} (K : PySem.W.Frag) (hu : X.A.units + 64 < cLine) (h : X.K = K := by rfl) : OpR X (compareOp .NotEq) (rNeD K) := h ▸ op_neD hu
theorem ixL {X : Cx} (K : PySem.W.Frag) (h : X.K = K := by rfl) : IxR X (rIxL K) := h ▸ ix_list
/-- for a, b in .. -/
theorem pgT2 {X : Cx} (K : PySem.W.Frag) (i j : Nat) {x y : Str} {p1 p2 p3 : Pos} {kk : Nat} (nd : X.N.Nodup) (hc : X.calm = true := by rfl) (hi : X.N[i]? = some x := by rfl) (hj : X.N[j]? = some y := by rfl) (hx : Loc X.env.scope x := by exact .inl rfl) (hy : Loc X.env.scope y := by exact .inl rfl)
    (fx : X.fn x = true ∨ X.env.scope.names.lookup x = some .local := by exact .inr rfl) (fy : X.fn y = true ∨ X.env.scope.names.lookup y = some .local := by exact .inr rfl)
    (hn : (assignEach [.Name x p1, .Name y p2] X.env).length = 2 := by rfl) (hst : (assignEach [.Name x p1, .Name y p2] X.env).findIdx? (·.1) = none := by rfl) (h : X.K = K := by rfl) :
    PG X (.Tuple [.Name x p1, .Name y p2] kk p3) (gTup K 2 (gCons (gName i) (gCons (gName j) gNil))) := h ▸ pg_tup hc (pgs_cons (pg_name nd hi hx fx) (pgs_cons (pg_name nd hj hy fy) pgs_nil)) hn hst
theorem rd_cat (ha : H a = some (.tup xs)) (hb : H b = some (.tup ys)) (hl : xs.length + ys.length ≤ 100000) (k : ∀ p H', Same H H' → H' p = some (.tup (xs ++ ys)) → Q (.ref p) H') : rCat K (.ref a) (.ref b) H Q := by
  unfold rCat
  refine ⟨a, b, xs, ys, rfl, rfl, SqT.of ha, SqT.of hb, sz hl, fun e => ?_, fun _ e => ?_, fun _ _ p hp => k p _ (same_upd hp) upd_same⟩
  · exact k b H (Same.refl H) (by rw [e]; exact hb)
  · exact k a H (Same.refl H) (by rw [e, List.append_nil]; exact ha)
theorem rd_slt {lo hi : Option Int} (ha : H a = some (.tup xs)) (k : ∀ p H', Same H H' → H' p = some (.tup (cutV xs lo hi)) → Q (.ref p) H') : rSlt K (.ref a) lo hi H Q := by
  unfold rSlt
  refine ⟨a, xs, rfl, SqT.of ha, fun e => ?_, fun _ p hp => k p _ (same_upd hp) upd_same⟩
  refine k a H (Same.refl H) ?_
  unfold cutV
  rw [e.1, e.2, List.drop_zero, Nat.sub_zero, List.take_length]
  exact ha
end
theorem cut_take (xs : List V) (g : Nat) : cutV xs none (some (g : Int)) = xs.take g := by
  unfold cutV
  rw [HT.sIx_none, HT.sIx_nat, List.drop_zero, Nat.sub_zero]
  by_cases h : g ≤ xs.length
  · rw [Nat.min_eq_left h]
  · rw [Nat.min_eq_right (by omega), List.take_length, List.take_of_length_le (by omega)]
theorem cut_drop (xs : List V) (g : Nat) : cutV xs (some (g : Int)) none = xs.drop g := by
  unfold cutV
  rw [HT.sIx_none, HT.sIx_nat]
  by_cases h : g ≤ xs.length
  · rw [Nat.min_eq_left h]
    exact List.take_of_length_le (by simp)
  · rw [Nat.min_eq_right (by omega), Nat.sub_self, List.take_zero, List.drop_of_length_le (by omega)]

/-! ### a def of the top, called -/
structure Dfn (P : Program) (w : World) (K : PySem.W.Frag) (mg : Str → Option Value) (base : Heap) (x : Str) (k : Nat) (ps : List Str) (sp : Sp) (f : Addr) (fd : FuncData) : Prop where
  ok : FnOk P w K mg base CX0 k f fd ps sp
  mgf : mg x = some (.ref f)
  kp : PySem.W.keepIn K (.ref f) = true
  b : Binds K fd ps []
theorem pcl {X : Cx} {x : Str} {k : Nat} {ps : List Str} {sp : Sp} {f : Addr} {fd : FuncData} {e : Expr} {es : List Expr} {t : TA} {p pos : Pos} (D : Dfn X.prog X.w X.K X.mg X.base x k ps sp f fd) (hr : Room k X.A) (ha : PA X (e :: es) t) (hg : Gl X x := by rfl)
    (hdb : (x == ("__debug__" : Str)) = false := by decide) (he : starEach (e :: es) X.env = (false, eval e X.env) :: starEach es X.env := by rfl) (hpl : (backTo pos (starEach es X.env)).any (·.1) = false := by rfl) :
    PE X (.Call (.Name x p) (e :: es) [] pos) (tCall sp [] E0 t) := pe_call D.ok hr hg D.mgf D.kp D.b .nil pass0 ha hdb he hpl

/-! ### the pipe -/
def pfl (r : Int) (kdA : Addr) (ho od : Bool) (c : Addr) : List (Str × V) := [("registers", .int r), ("kinds", .ref kdA), ("holds", .bl ho), ("orders", .bl od), ("_aged", .ref c)]
theorem pfl_r {r kdA ho od c} : (pfl r kdA ho od c).lookup ("registers" : Str) = some (.int r) := rfl
theorem pfl_k {r kdA ho od c} : (pfl r kdA ho od c).lookup ("kinds" : Str) = some (.ref kdA) := by
  unfold pfl
  simp only [List.lookup, show (("kinds" : Str) == "registers") = false by decide +kernel]
  rfl
theorem pfl_h {r kdA ho od c} : (pfl r kdA ho od c).lookup ("holds" : Str) = some (.bl ho) := by
  unfold pfl
  simp only [List.lookup, show (("holds" : Str) == "registers") = false by decide +kernel, show (("holds" : Str) == "kinds") = false by decide +kernel]
  rfl
theorem pfl_o {r kdA ho od c} : (pfl r kdA ho od c).lookup ("orders" : Str) = some (.bl od) := by
  unfold pfl
  simp only [List.lookup, show (("orders" : Str) == "registers") = false by decide +kernel, show (("orders" : Str) == "kinds") = false by decide +kernel, show (("orders" : Str) == "holds") = false by decide +kernel]
  rfl
theorem pfl_c {r kdA ho od c} : (pfl r kdA ho od c).lookup ("_aged" : Str) = some (.ref c) := by
  unfold pfl
  simp only [List.lookup, show (("_aged" : Str) == "registers") = false by decide +kernel, show (("_aged" : Str) == "kinds") = false by decide +kernel, show (("_aged" : Str) == "holds") = false by decide +kernel, show (("_aged" : Str) == "orders") = false by decide +kernel]
  rfl
theorem pfl_m {r kdA ho od c} {m : Str} (h1 : (m == "registers") = false) (h2 : (m == "kinds") = false) (h3 : (m == "holds") = false) (h4 : (m == "orders") = false) (h5 : (m == "_aged") = false) : (pfl r kdA ho od c).lookup m = none := by
  unfold pfl
  simp only [List.lookup, h1, h2, h3, h4, h5]
structure TxtC (K : PySem.W.Frag) (mg : Str → Option Value) (C : Addr) : Prop where
  cl : Cls K C
  nr : NoAttr K C "registers"
  nk : NoAttr K C "kinds"
  nh : NoAttr K C "holds"
  no : NoAttr K C "orders"
  na : NoAttr K C "_aged"
  mgC : mg "Pipe" = some (.ref C)
/-- what is told of a pipe -/
structure PI0 where
  regs : Int
  ks : KT
  ho : Bool
  od : Bool
/-- a pipe at p; its kinds at kdA, what it keeps at c -/
def PipeAt (C : Addr) (H : Hp) (p kdA c : Addr) (t : PI0) : Prop := ∃ dx, H p = some (.ins C dx (pfl t.regs kdA t.ho t.od c))

/-! ### standings that can be -/
structure RowOk (ks : KT) (r : List E) : Prop where
  ne : r ≠ []
  kn : ∀ e ∈ r, e.1 = "" ∨ Kn ks e.1
  sz : r.length ≤ 1000
structure InOk (ks : KT) (n : Nat) (i : Ins) : Prop where
  kn : Kn ks i.kind
  goal : -1 ≤ i.goal ∧ i.goal < n
  srcs : ∀ s ∈ i.srcs, 0 ≤ s ∧ s < n
  len : i.srcs.length ≤ 1000
def topE (r : List E) : E := r.getLast?.getD ("", 0)
def rowAt (st : List (List E)) (g : Int) : List E := st[g.toNat]?.getD []
def heldS (t : PI0) (st : List (List E)) (i : Ins) : Bool :=
  (t.ho && i.srcs.any fun s => !(isWr (kd t.ks) (topE (rowAt st s))) && !canRead (kd t.ks) (topE (rowAt st s))) ||
  (t.od && !decide (i.goal < 0) && (rowAt st i.goal).any (ordE (kd t.ks) ((kd t.ks).len i.kind)))
def putS (st : List (List E)) (i : Ins) : List (List E) :=
  if i.goal < 0 then st else st.take i.goal.toNat ++ [rowAt st i.goal ++ [(i.kind, 0)]] ++ st.drop (i.goal.toNat + 1)
theorem StAt.row {H : Hp} {v : V} {st : List (List E)} (h : StAt H v st) {g : Int} (h0 : 0 ≤ g) (h1 : g < st.length) :
    ∃ a xs b ys, v = .ref a ∧ H a = some (.tup xs) ∧ xs.length = st.length ∧ atI xs g = some (.ref b) ∧ H b = some (.tup ys) ∧ Al (EnAt H) ys (rowAt st g) := by
  obtain ⟨a, xs, rfl, ha, hx⟩ := h
  obtain ⟨n, rfl⟩ := Int.eq_ofNat_of_zero_le h0
  have hn : n < st.length := by omega
  have e : st[n]? = some st[n] := List.getElem?_eq_getElem hn
  obtain ⟨x, hx1, b, ys, rfl, hb, hy⟩ := hx.at' e
  refine ⟨a, xs, b, ys, rfl, ha, hx.1, atI_nat hx1, hb, ?_⟩
  unfold rowAt
  rw [Int.toNat_natCast, e]
  exact hy
/-- the last entry -/
theorem row_top {H : Hp} {ys : List V} {r : List E} (h : Al (EnAt H) ys r) (hne : r ≠ []) : ∃ x, atI ys (-1) = some x ∧ EnAt H x (topE r) := by
  rcases List.eq_nil_or_concat r with rfl | ⟨es, e, rfl⟩
  · exact absurd rfl hne
  · rw [List.concat_eq_append] at *
    obtain ⟨zs, y, rfl, _, hy⟩ := h.split rfl
    refine ⟨y, atI_last zs y, ?_⟩
    unfold topE
    rw [gl_snoc]
    exact hy
theorem topE_mem {r : List E} (hne : r ≠ []) : topE r ∈ r := by
  rcases List.eq_nil_or_concat r with rfl | ⟨es, e, rfl⟩
  · exact absurd rfl hne
  · rw [List.concat_eq_append] at *
    unfold topE
    rw [gl_snoc]
    simp
section
variable {P : Program} {w : World} {K : PySem.W.Frag} {mg : Str → Option Value} {base : Heap}
/-! ### put_under_way -/
def spPut (ks : KT) : Sp := fun vs H Q _ => ∃ (v vi : V) (st : List (List E)) (i : Ins) (m : Addr), vs = [v, vi, .ref m] ∧ StAt H v st ∧ InAt H vi i ∧ H m = some (.tup []) ∧ InOk ks st.length i ∧ st.length ≤ 1000 ∧ (∀ r ∈ st, RowOk ks r) ∧
  ∀ v' H', Same H H' → StAt H' v' (putS st i) → Q v' H'
theorem scPut : FnScope ["standing", "instruction", "more", "kind", "goal", "_"] ["standing", "instruction", "more"] (defScope sPut) := ⟨rfl, rfl, rfl, by decide +kernel, rfl, by decide +kernel, by decide +kernel⟩
theorem ok_put {ks : KT} {f : Addr} {fd : FuncData} (F : Fun K "put_under_way" "put_under_way" sPut f fd) : FnOk P w K mg base CX0 1 f fd ["standing", "instruction", "more"] (spPut ks) := by
  refine F.ok scPut (fun vs H Q E h => ?_) (fun cdv A outer s H vs Q E hr h => ?_)
  · obtain ⟨v, vi, st, i, m, rfl, _⟩ := h
    rfl
  · obtain ⟨v, vi, st, i, m, rfl, hst, ⟨a, b, rfl, ha, hb⟩, hm, iok, hsz, rok, k⟩ := h
    have nd := scPut.nd
    refine ⟨_, pss_cons (ps_asg (pv 1) (pg_tup (by rfl) (pgs_cons (pg_name (i := 3) nd rfl (.inl rfl)) (pgs_cons (pg_name (i := 4) nd rfl (.inl rfl)) (pgs_cons (pg_name (i := 5) nd rfl (.inl rfl)) pgs_nil)))))
      (pss_cons (ps_if (pt_cmpR op_lt (pv 4) pe_int (nomark _)) (pss_one (ps_ret (pv 0))) pss_nil)
      (pss_one (ps_ret (pe_op op_cat' (pe_op op_cat' (pe_slice sl_t' (pv 0) po_none (po_some (pv 4)))
        (ptup (pa_cons (pe_op op_cat' (pe_ix ix_tup (pv 0) (pv 4) (fun _ _ => rfl)) (ptup (pa_cons (pe_op op_cat' (ptup (pa_cons (pv 3) (pa_cons pe_int pa_nil))) (pv 2)) pa_nil))) pa_nil)))
        (pe_slice sl_t' (pv 0) (po_some (pe_op op_add (pv 4) pe_int)) po_none))))), ?_⟩
    refine ⟨_, rfl, a, _, rfl, SqT.of ha, rfl, _, _, rfl, _, _, rfl, _, _, rfl, rfl, ?_⟩
    refine ⟨_, rfl, _, _, rfl, rfl, _, rfl, ?_⟩
    by_cases hg : i.goal < 0
    · rw [decide_eq_true hg]
      refine iteT ⟨_, rfl, k _ H (Same.refl H) ?_⟩
      unfold putS; rw [if_pos hg]; exact hst
    · rw [decide_eq_false hg]
      refine iteF ?_
      have g0 : 0 ≤ i.goal := by omega
      obtain ⟨A1, xs, B1, ys, rfl, hA, hlen, hat, hB, hal⟩ := hst.row g0 iok.goal.2
      obtain ⟨A1', xs', e1, hA', hall⟩ := hst
      cases e1
      rw [hA] at hA'; cases hA'
      obtain ⟨n, en⟩ := Int.eq_ofNat_of_zero_le g0
      have hn : n < st.length := by have := iok.goal.2; omega
      have rrow : RowOk ks (rowAt st i.goal) := rok _ (by
        unfold rowAt; rw [en, Int.toNat_natCast, List.getElem?_eq_getElem hn]; exact List.getElem_mem hn)
      have hyl : ys.length ≤ 1000 := by rw [hal.1]; exact rrow.sz
      -- standing[:goal]
      refine ⟨_, rfl, _, rfl, _, rfl, ?_⟩
      refine rd_slt hA fun p1 H1 s1 h1 => ?_
      -- standing[goal]
      refine ⟨_, rfl, _, rfl, A1, _, _, _, rfl, rfl, SqT.of (s1 _ _ hA), hat, ?_⟩
      -- (kind, 0) + more
      refine ⟨_, rfl, ?_⟩
      refine rd_t2 fun p2 H2 s2 h2 => ?_
      refine ⟨_, rfl, rd_cat h2 (s2 _ _ (s1 _ _ hm)) (by show 2 + 0 ≤ 100000; decide) fun p3 H3 s3 h3 => ?_⟩
      refine rd_t1 fun p4 H4 s4 h4 => ?_
      have s14 : Same H H4 := s1.trans (s2.trans (s3.trans s4))
      refine rd_cat (s14 _ _ hB) h4 (by show ys.length + 1 ≤ 100000; omega) fun p5 H5 s5 h5 => ?_
      refine rd_t1 fun p6 H6 s6 h6 => ?_
      have s16 : Same H1 H6 := (s2.trans (s3.trans s4)).trans (s5.trans s6)
      have s06 : Same H H6 := s1.trans s16
      refine rd_cat (s16 _ _ h1) h6 (by rw [en, cut_take]; simp only [List.length_take, List.length_cons, List.length_nil]; omega) fun p7 H7 s7 h7 => ?_
      refine ⟨_, rfl, _, rfl, _, _, rfl, rfl, _, rfl, ?_⟩
      have s07 : Same H H7 := s06.trans s7
      refine rd_slt (s07 _ _ hA) fun p8 H8 s8 h8 => ?_
      refine rd_cat (s8 _ _ h7) h8 (by
        rw [en, cut_take, show ((n : Int) + 1) = ((n + 1 : Nat) : Int) by omega, cut_drop]
        simp only [List.length_append, List.length_take, List.length_cons, List.length_nil, List.length_drop]; omega) fun p9 H9 s9 h9 => ?_
      have s09 : Same H H9 := (s07.trans s8).trans s9
      have s39 : Same H3 H9 := (s4.trans (s5.trans s6)).trans (s7.trans (s8.trans s9))
      have s59 : Same H5 H9 := (s6.trans s7).trans (s8.trans s9)
      refine k _ H9 s09 ⟨p9, _, rfl, h9, ?_⟩
      have hmono : Al (EnsAt H9) xs st := hall.mono fun _ _ => EnsAt.mono s09.tups
      unfold putS
      rw [if_neg hg]
      rw [en, cut_take, show ((n : Int) + 1) = ((n + 1 : Nat) : Int) by omega, cut_drop, Int.toNat_natCast]
      refine Al.append (Al.append ⟨by simp [hlen], fun j x d hx hd => ?_⟩ (Al.one ⟨p5, _, rfl, s59 _ _ h5, ?_⟩)) ⟨by simp [hlen], fun j x d hx hd => ?_⟩
      · rw [List.getElem?_take] at hx hd
        split at hx
        · rename_i hj; rw [if_pos hj] at hd; exact hmono.2 j x d hx hd
        · cases hx
      · rw [← en]
        refine Al.snoc (hal.mono fun _ _ => EnAt.mono s09.tups) ⟨p3, rfl, ?_⟩
        rw [s39 _ _ h3]; rfl
      · rw [List.getElem?_drop] at hx hd
        exact hmono.2 _ x d hx hd
end
end K3
namespace K3
open PySem PySem.Spec PyProof.Rows L2
theorem map_at {α : Type} {g : α → V} {l : List α} {i : Nat} {y : V} (h : (l.map g)[i]? = some y) : ∃ x, l[i]? = some x ∧ y = g x := by
  rw [List.getElem?_map] at h
  cases e : l[i]? with
  | none => rw [e] at h; cases h
  | some x => rw [e] at h; exact ⟨x, rfl, (Option.some.inj h).symm⟩
theorem row_of {H : Hp} {xs : List V} {st : List (List E)} (hx : Al (EnsAt H) xs st) {g : Int} (h0 : 0 ≤ g) (h1 : g < st.length) :
    ∃ b ys, atI xs g = some (.ref b) ∧ H b = some (.tup ys) ∧ Al (EnAt H) ys (rowAt st g) := by
  obtain ⟨n, rfl⟩ := Int.eq_ofNat_of_zero_le h0
  have hn : n < st.length := by omega
  have e : st[n]? = some st[n] := List.getElem?_eq_getElem hn
  obtain ⟨x, hx1, b, ys, rfl, hb, hy⟩ := hx.at' e
  refine ⟨b, ys, atI_nat hx1, hb, ?_⟩
  unfold rowAt
  rw [Int.toNat_natCast, e]
  exact hy
theorem any_take_succ {α : Type} {p : α → Bool} {l : List α} {i : Nat} {x : α} (h : l[i]? = some x) (h1 : (l.take i).any p = false) (h2 : p x = false) : (l.take (i + 1)).any p = false := by
  rw [List.take_add_one, h, List.any_append, h1]
  simp [h2]
theorem any_of_at {α : Type} {p : α → Bool} {l : List α} {i : Nat} {x : α} (h : l[i]? = some x) (h2 : p x = true) : l.any p = true :=
  List.any_eq_true.mpr ⟨x, List.mem_of_getElem? h, h2⟩
section
variable {P : Program} {w : World} {K : PySem.W.Frag} {mg : Str → Option Value} {base : Heap} {C : Addr}
def spHeld (C : Addr) (t : PI0) : Sp := fun vs H Q _ => ∃ (p kdA c : Addr) (v vi : V) (st : List (List E)) (i : Ins), vs = [.ref p, v, vi] ∧ PipeAt C H p kdA c t ∧ KdAt H kdA t.ks ∧ StAt H v st ∧ InAt H vi i ∧ InOk t.ks st.length i ∧ (∀ r ∈ st, RowOk t.ks r) ∧
  Q (.bl (heldS t st i)) H
theorem scHeld : FnScope ["pipe", "standing", "instruction", "kind", "goal", "sources", "source", "last", "length", "entry"] ["pipe", "standing", "instruction"] (defScope sHeld) := ⟨rfl, rfl, rfl, by decide +kernel, rfl, by decide +kernel, by decide +kernel⟩
theorem rowAt_mem {st : List (List E)} {g : Int} (h0 : 0 ≤ g) (h1 : g < st.length) : rowAt st g ∈ st := by
  obtain ⟨n, rfl⟩ := Int.eq_ofNat_of_zero_le h0
  have hn : n < st.length := by omega
  unfold rowAt; rw [Int.toNat_natCast, List.getElem?_eq_getElem hn]; exact List.getElem_mem hn
theorem ok_held {t : PI0} {f fC : Addr} {fd fdC : FuncData} (F : Fun K "is_held" "is_held" sHeld f fd) (T : Txt K mg) (TC : TxtC K mg C) (DC : Dfn P w K mg base "can_be_read" 1 ["kinds", "entry"] (spCan t.ks) fC fdC) : FnOk P w K mg base CX0 2 f fd ["pipe", "standing", "instruction"] (spHeld C t) := by
  refine F.ok scHeld (fun vs H Q E h => ?_) (fun cdv A outer s H vs Q E hr h => ?_)
  · obtain ⟨p, kdA, c, v, vi, st, i, rfl, _⟩ := h
    rfl
  · obtain ⟨p, kdA, c, v, vi, st, i, rfl, ⟨dx, hp⟩, ⟨kvs, hkd, hkv⟩, ⟨A1, xs, rfl, hA, hall⟩, ⟨a, b, rfl, ha, hb⟩, iok, rok, k⟩ := h
    have hu := hu_of hr
    have nd := scHeld.nd
    refine ⟨_, pss_cons (ps_asg (pv 2) (pg_tup (by rfl) (pgs_cons (pg_name (i := 3) nd rfl (.inl rfl)) (pgs_cons (pg_name (i := 4) nd rfl (.inl rfl)) (pgs_cons (pg_name (i := 5) nd rfl (.inl rfl)) pgs_nil)))))
      (Evl.pss_cut (ps_if (pt_val (pe_fld (pv 0) rfl)) (pss_one (ps_for PassesOwn.never rfl (pi_tup (pv 5)) (pg_name (i := 6) nd rfl (.inl rfl))
          (pss_cons (ps_set (i := 7) nd rfl (.inl rfl) (pe_ix ix_tup (pe_ix ix_tup (pv 1) (pv 6) (fun _ _ => rfl)) (pe_un un_neg pe_int) (fun _ _ => rfl)))
          (pss_one (ps_if (PW.pt (pw_and (pt_cmpR op_ne (pe_ix ix_tup (pv 7) pe_int (fun _ _ => rfl)) (pgl T.W) (nomark _)) (pw_and1 (pt_not (pt_val (pcl DC hr (pa_cons (pe_fld (pv 0) rfl) (pa_cons (pv 7) pa_nil))))))))
            (pss_one (ps_ret pe_bl)) pss_nil))))) pss_nil)
      (pss_cons (ps_if (PW.pt (pw_or (pt_not (pt_val (pe_fld (pv 0) rfl))) (pw_or1 (pt_cmpR op_lt (pv 4) pe_int (nomark _))))) (pss_one (ps_ret pe_bl)) pss_nil)
      (pss_cons (ps_set (i := 8) nd rfl (.inl rfl) (pe_ix ix_tup (pe_dget hu (pe_fld (pv 0) rfl) (pv 3) (fun _ _ => rfl)) pe_int (fun _ _ => rfl)))
      (pss_cons (ps_for PassesOwn.never rfl (pi_tup (pe_ix ix_tup (pv 1) (pv 4) (fun _ _ => rfl))) (pg_name (i := 9) nd rfl (.inl rfl))
          (pss_one (ps_if (PW.pt (pw_and (pt_cmpR op_ne (pe_ix ix_tup (pv 9) pe_int (fun _ _ => rfl)) (pgl T.W) (nomark _))
            (pw_and1 (pt_cmpR op_gt (pe_op op_sub (pe_ix ix_tup (pe_dget hu (pe_fld (pv 0) rfl) (pe_ix ix_tup (pv 9) pe_int (fun _ _ => rfl)) (fun _ _ => rfl)) pe_int (fun _ _ => rfl)) (pe_ix ix_tup (pv 9) pe_int (fun _ _ => rfl))) (pv 8) (nomark _)))))
            (pss_one (ps_ret pe_bl)) pss_nil)))
      (pss_one (ps_ret pe_bl)))))), ?_⟩
    refine ⟨_, rfl, a, _, rfl, SqT.of ha, rfl, _, _, rfl, _, _, rfl, _, _, rfl, rfl, ?_⟩
    let tst : Int → Bool := fun s => !(isWr (kd t.ks) (topE (rowAt st s))) && !canRead (kd t.ks) (topE (rowAt st s))
    let σ0 : Option V → Option V → L2.St := fun v6 v7 => [some (.ref p), some (.ref A1), some (.ref a), some (.str i.kind), some (.int i.goal), some (.ref b), v6, v7, none, none]
    refine ⟨fun σ' H' => H' = H ∧ (∃ v6 v7, σ' = σ0 v6 v7) ∧ (t.ho && i.srcs.any tst) = false, ?_, ?_⟩
    · refine ⟨_, rfl, p, C, dx, _, _, rfl, hp, TC.cl, TC.nh, pfl_h, _, rfl, ?_⟩
      cases hho : t.ho with
      | false => exact iteF ⟨rfl, ⟨none, none, rfl⟩, rfl⟩
      | true =>
        refine iteT ?_
        refine ⟨_, rfl, b, rfl, ⟨_, SqT.of hb⟩, for_tup (K := K) (xs := i.srcs.map V.int) (fun j σ' H' => H' = H ∧ (∃ v6 v7, σ' = σ0 v6 v7) ∧ (i.srcs.take j).any tst = false)
          ⟨rfl, ⟨none, none, rfl⟩, rfl⟩ (fun j σ' H' _ hh => by obtain ⟨rfl, _⟩ := hh; exact SqT.of hb) ?_ ?_⟩
        · rintro j y σ' H' hj ⟨rfl, ⟨v6, v7, rfl⟩, hany⟩
          obtain ⟨s0, hs0, rfl⟩ := map_at hj
          obtain ⟨g0, g1⟩ := iok.srcs s0 (List.mem_of_getElem? hs0)
          obtain ⟨b', ys, hat, hB, hal⟩ := row_of hall g0 g1
          have rrow : RowOk t.ks (rowAt st s0) := rok _ (rowAt_mem g0 g1)
          obtain ⟨x, htop, e', rfl, he'⟩ := row_top hal rrow.ne
          have hkn := rrow.kn _ (topE_mem rrow.ne)
          have cont : tst s0 = false → (H' = H' ∧ (∃ v6 v7, (σ0 (some (.int s0)) (some (.ref e'))) = σ0 v6 v7) ∧ (i.srcs.take (j + 1)).any tst = false) := fun h0 => ⟨rfl, ⟨_, _, rfl⟩, any_take_succ hs0 hany h0⟩
          refine ⟨_, rfl, _, rfl, A1, _, _, _, rfl, rfl, SqT.of hA, hat, _, rfl, b', _, _, _, rfl, rfl, SqT.of hB, htop, ?_⟩
          refine ⟨_, rfl, e', _, 0, _, rfl, rfl, SqT.of he', rfl, rfl, _, rfl, ?_⟩
          by_cases hz : (topE (rowAt st s0)).1 = ""
          · rw [show decide ((V.str (topE (rowAt st s0)).1) = V.str "") = true from decide_eq_true (congrArg V.str hz)]
            refine iteF (iteF (cont ?_))
            show (!(isWr (kd t.ks) (topE (rowAt st s0))) && !canRead (kd t.ks) (topE (rowAt st s0))) = false
            rw [(isWr_iff (kd t.ks) _).mpr hz]; rfl
          · rw [show decide ((V.str (topE (rowAt st s0)).1) = V.str "") = false from decide_eq_false fun q => hz (V.str.inj q)]
            have hw : isWr (kd t.ks) (topE (rowAt st s0)) = false := by
              rw [← Bool.not_eq_true, isWr_iff]; exact hz
            refine iteT ?_
            refine ⟨_, rfl, p, C, dx, _, _, rfl, hp, TC.cl, TC.nk, pfl_k, _, rfl, kdA, _, topE (rowAt st s0), rfl, ⟨kvs, hkd, hkv⟩, ⟨e', rfl, he'⟩, hkn, _, rfl, ?_⟩
            have et : tst s0 = !canRead (kd t.ks) (topE (rowAt st s0)) := by
              show (!(isWr (kd t.ks) (topE (rowAt st s0))) && !canRead (kd t.ks) (topE (rowAt st s0))) = _
              rw [hw]; rfl
            cases hc : canRead (kd t.ks) (topE (rowAt st s0)) with
            | true => exact iteF (cont (by rw [et, hc]; rfl))
            | false =>
              refine iteT ?_
              have : heldS t st i = true := by
                unfold heldS
                rw [hho, any_of_at (p := tst) hs0 (by rw [et, hc]; rfl)]; rfl
              rw [this] at k
              exact k
        · rintro σ' H' ⟨rfl, hs, hany⟩
          refine ⟨rfl, hs, ?_⟩
          rw [List.length_map, List.take_length] at hany
          rw [hany]; rfl
    · rintro σ' H' ⟨rfl, ⟨v6, v7, rfl⟩, hfst⟩
      have eH : heldS t st i = (t.od && !decide (i.goal < 0) && (rowAt st i.goal).any (ordE (kd t.ks) ((kd t.ks).len i.kind))) := by
        unfold heldS; rw [hfst]; rfl
      rw [eH] at k
      refine ⟨_, rfl, p, C, dx, _, _, rfl, hp, TC.cl, TC.no, pfl_o, _, rfl, ?_⟩
      cases hod : t.od with
      | false =>
        rw [hod] at k
        exact iteT (iteT k)
      | true =>
        rw [hod] at k
        refine iteF ?_
        refine ⟨_, rfl, _, _, rfl, rfl, _, rfl, ?_⟩
        by_cases hg : i.goal < 0
        · rw [decide_eq_true hg] at k ⊢
          exact iteT k
        · rw [decide_eq_false hg] at k ⊢
          refine iteF ?_
          obtain ⟨ki, hki⟩ := iok.kn
          obtain ⟨tk, htk, hti⟩ := hkv.get hki
          rw [kd_len hki] at k
          refine ⟨_, rfl, p, C, dx, _, _, rfl, hp, TC.cl, TC.nk, pfl_k, _, rfl, kdA, .ref tk, rfl, ?_, tk, _, 1, _, rfl, rfl, SqT.of hti, rfl, ?_⟩
          · rw [← htk]; exact .inl ⟨kvs, Sum.inr i.kind, hkd, rfl, rfl⟩
          have g0 : 0 ≤ i.goal := by omega
          obtain ⟨b', ys, hat, hB, hal⟩ := row_of hall g0 iok.goal.2
          have rrow : RowOk t.ks (rowAt st i.goal) := rok _ (rowAt_mem g0 iok.goal.2)
          refine ⟨_, rfl, _, rfl, A1, _, _, _, rfl, rfl, SqT.of hA, hat, b', rfl, ⟨_, SqT.of hB⟩, for_tup (K := K) (xs := ys) (fun j σ' H'' => H'' = H' ∧ (∃ v9, σ' = [some (.ref p), some (.ref A1), some (.ref a), some (.str i.kind), some (.int i.goal), some (.ref b), v6, v7, some (.int ki.len), v9]) ∧ ((rowAt st i.goal).take j).any (ordE (kd t.ks) ki.len) = false)
            ⟨rfl, ⟨none, rfl⟩, rfl⟩ (fun j σ' H'' _ hh => by obtain ⟨rfl, _⟩ := hh; exact SqT.of hB) ?_ ?_⟩
          · rintro j y σ' H'' hj ⟨rfl, ⟨v9, rfl⟩, hany⟩
            obtain ⟨e, hej, e', rfl, he'⟩ := hal.at hj
            have hkn := rrow.kn e (List.mem_of_getElem? hej)
            have cont : ordE (kd t.ks) ki.len e = false → (H'' = H'' ∧ (∃ v9, [some (.ref p), some (.ref A1), some (.ref a), some (.str i.kind), some (.int i.goal), some (.ref b), v6, v7, some (.int ki.len), some (.ref e')] = [some (.ref p), some (.ref A1), some (.ref a), some (.str i.kind), some (.int i.goal), some (.ref b), v6, v7, some (.int ki.len), v9]) ∧ ((rowAt st i.goal).take (j + 1)).any (ordE (kd t.ks) ki.len) = false) := fun h0 => ⟨rfl, ⟨_, rfl⟩, any_take_succ hej hany h0⟩
            refine ⟨_, rfl, e', _, 0, _, rfl, rfl, SqT.of he', rfl, rfl, _, rfl, ?_⟩
            by_cases hz : e.1 = ""
            · rw [show decide ((V.str e.1) = V.str "") = true from decide_eq_true (congrArg V.str hz)]
              refine iteF (iteF (cont ?_))
              unfold ordE
              rw [(isWr_iff (kd t.ks) _).mpr hz]; rfl
            · rw [show decide ((V.str e.1) = V.str "") = false from decide_eq_false fun q => hz (V.str.inj q)]
              refine iteT ?_
              obtain ⟨ke, hke⟩ := hkn.resolve_left hz
              obtain ⟨tk', htk', hti'⟩ := hkv.get hke
              refine ⟨_, rfl, p, C, dx, _, _, rfl, hp, TC.cl, TC.nk, pfl_k, _, rfl, e', _, 0, _, rfl, rfl, SqT.of he', rfl, kdA, .ref tk', rfl, ?_, tk', _, 1, _, rfl, rfl, SqT.of hti', rfl, ?_⟩
              · rw [← htk']; exact .inl ⟨kvs, Sum.inr e.1, hkd, rfl, rfl⟩
              refine ⟨_, rfl, e', _, 1, _, rfl, rfl, SqT.of he', rfl, _, _, rfl, rfl, _, rfl, _, _, rfl, rfl, _, rfl, ?_⟩
              have hw : isWr (kd t.ks) e = false := by
                rw [← Bool.not_eq_true, isWr_iff]; exact hz
              have eo : ordE (kd t.ks) ki.len e = decide (ki.len < ke.len - e.2) := by
                unfold ordE; rw [hw, kd_len hke]; rfl
              rw [← eo]
              cases ho : ordE (kd t.ks) ki.len e with
              | true =>
                refine iteT ?_
                rw [any_of_at hej ho] at k
                exact k
              | false => exact iteF (cont ho)
          · rintro σ' H'' ⟨rfl, hs, hany⟩
            rw [hal.1, List.take_length] at hany
            rw [hany] at k
            exact k
end
end K3
namespace K3
open PySem PySem.Spec PyProof.Rows L2
theorem map_take_succ {α β : Type} {g : α → β} {l : List α} {i : Nat} {x : α} (h : l[i]? = some x) : (l.take (i + 1)).map g = (l.take i).map g ++ [g x] := by
  rw [List.take_add_one, h, List.map_append]; rfl
theorem take_succ_at {α : Type} {l : List α} {i : Nat} {x : α} (h : l[i]? = some x) : l.take (i + 1) = l.take i ++ [x] := by
  rw [List.take_add_one, h]; rfl
theorem take_len_at {α : Type} {l : List α} {i : Nat} {x : α} (h : l[i]? = some x) : (l.take i).length = i := by
  have := (List.getElem?_eq_some_iff.mp h).1
  rw [List.length_take]; omega
theorem tups_lst {H : Hp} {D : Addr} {acc : List V} {o : HO} (h : H D = some (.lst acc)) : Tups H (upd H D o) := fun b xs e => by
  have : b ≠ D := fun z => by rw [z, h] at e; cases e
  rw [upd_ne this]; exact e
theorem idxs_len (P : E → Bool) : ∀ (o : List E) (i : Int), (idxs P i o).length ≤ o.length
  | [], _ => Nat.le_refl _
  | e :: o, i => by
    have ih := idxs_len P o (i + 1)
    unfold idxs
    split
    · simp only [List.length_cons]; omega
    · simp only [List.length_cons]; omega
theorem idxs_nil (P : E → Bool) (o : List E) (i : Int) : idxs P i o = [] ↔ o.any P = false := by
  rw [← lastIdx_none (i := i), ← lastIdx_getLast]
  constructor
  · intro h; rw [h]; rfl
  · intro h; exact List.getLast?_eq_none_iff.mp h
theorem KdAt.same {H H' : Hp} {a : Addr} {ks : KT} (h : KdAt H a ks) (s : Same H H') : KdAt H' a ks := by
  obtain ⟨kvs, h1, h2⟩ := h
  refine ⟨kvs, ?_, h2.mono s.tups⟩
  rcases h1 with h1 | ⟨o, h1⟩
  · exact .inl (s _ _ h1)
  · exact .inr ⟨o, s _ _ h1⟩
/-- == of two pairs -/
theorem dp_pair {K : PySem.W.Frag} {H : Hp} {a : Addr} {x : Str} {i : Int} (h : H a = some (.tup [.str x, .int i])) : Dp K H (.ref a) (.tuple [.str x, .int i]) :=
  .tup (SqT.of h) (.cons (.str x) (.cons (.int i) .nil))
theorem shaped_pair {x : Str} {i : Int} (h : PyData.strOk x = true) : SeqAt.shaped (.tuple [.str x, .int i]) = true := by
  unfold SeqAt.shaped
  have h1 : (PyData.tuple [.str x, .int i]).canLay0 = true := by
    unfold PyData.canLay0 PyData.canLayAll0
    unfold PyData.canLay0 PyData.canLayAll0
    unfold PyData.canLay0 PyData.canLayAll0
    rw [h]; rfl
  rw [h1]; rfl
theorem eqv_pair {x y : Str} {i j : Int} : PyData.eqv (.tuple [.str x, .int i]) (.tuple [.str y, .int j]) = decide ((x, i) = (y, j)) := by
  have : PyData.eqv (.tuple [.str x, .int i]) (.tuple [.str y, .int j]) = (x == y && (i == j && true)) := rfl
  rw [this]
  by_cases h1 : x = y
  · subst h1
    by_cases h2 : i = j
    · subst h2; simp
    · have e1 : (i == j) = false := beq_eq_false_iff_ne.mpr h2
      have e2 : ¬ ((x, i) = (x, j)) := fun z => h2 (congrArg Prod.snd z)
      rw [e1, decide_eq_false e2]; simp
  · have e1 : (x == y) = false := beq_eq_false_iff_ne.mpr h1
    have e2 : ¬ ((x, i) = (y, j)) := fun z => h1 (congrArg Prod.fst z)
    rw [e1, decide_eq_false e2]; rfl
section
variable {P : Program} {w : World} {K : PySem.W.Frag} {mg : Str → Option Value} {base : Heap} {C : Addr}
def spAged (ks : KT) : Sp := fun vs H Q _ => ∃ (a : Addr) (v : V) (es : List E), vs = [.ref a, v] ∧ KdAt H a ks ∧ EnsAt H v es ∧ (∀ e ∈ es, e.1 = "" ∨ Kn ks e.1) ∧ es.length ≤ 1000 ∧ ∀ v' H', Same H H' → EnsAt H' v' (agedS (kd ks) es) → Q v' H'
abbrev nAged : List Str := ["kinds", "entries", "entry", "older", "at", "just", "present", "last", "kept"]
theorem scAged : FnScope nAged ["kinds", "entries"] (defScope sAged) := ⟨rfl, rfl, rfl, by decide +kernel, rfl, by decide +kernel, by decide +kernel⟩
theorem ok_aged {ks : KT} {f fG : Addr} {fd fdG : FuncData} (F : Fun K "aged" "aged" sAged f fd) (T : Txt K mg) (ko : KOk ks) (DG : Dfn P w K mg base "grown" 1 ["kinds", "entry"] (spGrown ks) fG fdG) : FnOk P w K mg base CX0 2 f fd ["kinds", "entries"] (spAged ks) := by
  refine F.ok scAged (fun vs H Q E h => ?_) (fun cdv A outer s H vs Q E hr h => ?_)
  · obtain ⟨a, v, es, rfl, _⟩ := h
    rfl
  · obtain ⟨a, v, es, rfl, hkd, ⟨A1, xs, rfl, hA, hall⟩, hkn, hsz, k⟩ := h
    have hu := hu_of hr
    have nd := scAged.nd
    refine ⟨_, pss_cons (ps_setLc (i := 3) (own := [("entry", 2)]) (g := gName 2) (by rfl) nd rfl rfl (sw_true rfl rfl rfl (by decide +kernel)) (pi_tup (pv 1)) (blkOk_by (N := nAged) (sc := defScope sAged) (by decide +kernel))
        (fun _ _ _ _ _ => pg_name (i := 2) nd rfl (.inl rfl)) (fun _ _ _ _ _ => pts_nil) (fun _ _ _ _ _ => pcl DG hr (pa_cons (pv 0) (pa_cons (pv 2) pa_nil))))
      (pss_cons (ps_setLc (i := 5) (own := [("at", 4), ("entry", 2)]) (by rfl) nd rfl rfl (sw_true rfl rfl rfl (by decide +kernel)) (pi_enum (by rfl) T.enumerate (pa_cons (pv 3) pa_nil)) (blkOk_by (N := nAged) (sc := defScope sAged) (by decide +kernel))
        (fun _ _ _ _ _ => pgT2 K 4 2 nd)
        (fun _ _ _ _ _ => pts_one (pt_cmpR (eqDK K hr.units) (pe_slice (slT K) (pv 2) po_none (po_some pe_int)) (ptup (pa_cons (pgl T.W) (pa_cons (pgl T.J) pa_nil))) (nomark _)))
        (fun _ _ _ _ _ => pv 4))
      (pss_cons (ps_if (pt_not (pt_truth (pv 5) (by intro _; rfl))) (pss_one (ps_ret (pe_callTy call_tuple_of (by rfl) T.tuple (by decide +kernel) (pa_cons (pv 3) pa_nil)))) pss_nil)
      (pss_cons (ps_set (i := 6) nd rfl (.inl rfl) (pe_ix ix_list (pv 5) (pe_un un_neg pe_int) (fun _ _ => rfl)))
      (pss_cons (ps_set (i := 7) nd rfl (.inl rfl) (pe_callB (cr_max rfl) (by rfl) T.max (by decide +kernel) (pa_cons
          (pe_lc (own := [("at", 4), ("entry", 2)]) (by rfl) nd (pi_enum (by rfl) T.enumerate (pa_cons (pv 3) pa_nil)) (blkOk_by (N := nAged) (sc := defScope sAged) (by decide +kernel))
            (fun _ _ _ _ _ => pgT2 K 4 2 nd)
            (fun _ _ _ _ _ => pts_one (pt_cmpR op_eq (pe_ix (ixT K) (pv 2) pe_int (fun _ _ => rfl)) (pgl T.W) (nomark _)))
            (fun _ _ _ _ _ => pv 4)) pa_nil)))
      (pss_cons (ps_set (i := 8) nd rfl (.inl rfl) (plst pa_nil))
      (pss_cons (ps_for PassesOwn.never rfl (pi_enum (by rfl) T.enumerate (pa_cons (pv 3) pa_nil)) (pgT2 K 4 2 nd)
        (pss_one (ps_if (pt_cmpR op_ne (pe_ix (ixT K) (pv 2) pe_int (fun _ _ => rfl)) (pgl T.W) (nomark _))
            (pss_one (ps_expr (pe_bm PySem.F.plainAttrs_list PySem.F.slot_list_append PySem.F.type_list_append mt_append (pv 8) (pa_cons (pv 2) pa_nil))))
            (pss_one (ps_if (pt_cmpR op_eq (pv 4) (pv 6) (nomark _))
              (pss_one (ps_expr (pe_bm PySem.F.plainAttrs_list PySem.F.slot_list_append PySem.F.type_list_append mt_append (pv 8) (pa_cons (pe_op (catT K) (ptup (pa_cons (pgl T.W) (pa_cons (pgl T.P) pa_nil))) (pe_slice (slT K) (pv 2) (po_some pe_int) po_none)) pa_nil))))
              (pss_one (ps_if (pt_cmpR op_eq (pv 4) (pv 7) (nomark _))
                (pss_one (ps_expr (pe_bm PySem.F.plainAttrs_list PySem.F.slot_list_append PySem.F.type_list_append mt_append (pv 8) (pa_cons (pe_op (catT K) (ptup (pa_cons (pgl T.W) (pa_cons (pgl T.G) pa_nil))) (pe_slice (slT K) (pv 2) (po_some pe_int) po_none)) pa_nil))))
                pss_nil)))))))
      (pss_one (ps_ret (pe_callTy call_tuple_of (by rfl) T.tuple (by decide +kernel) (pa_cons (pv 8) pa_nil)))))))))), ?_⟩
    let kk := kd ks
    have hcell : True := True.intro
    -- older
    refine ⟨_, rfl, A1, rfl, ⟨_, SqT.of hA⟩, fun D nD => lc_tup (K := K) (xs := xs) (fun j H' => Same H H' ∧ ∃ acc, H' D = some (.lst acc) ∧ Al (EnAt H') acc ((es.take j).map (grown kk)))
      ⟨same_upd nD, [], upd_same, Al.nil⟩ (fun j H' _ hh => SqT.of (hh.1 _ _ hA)) ?_ ?_⟩
    · rintro j y H' hj ⟨s1, acc, hD, hacc⟩
      obtain ⟨e, hej, b', rfl, hb'⟩ := hall.at hj
      have hjl : j < es.length := (List.getElem?_eq_some_iff.mp hej).1
      refine ⟨rfl, ?_⟩
      refine ⟨_, rfl, _, rfl, a, _, e, rfl, hkd.same s1, ⟨b', rfl, s1 _ _ hb'⟩, hkn e (List.mem_of_getElem? hej), fun v' H'' s2 he => ?_⟩
      have hal : acc.length = j := by rw [hacc.1, List.length_map, take_len_at hej]
      refine ⟨acc, s2 _ _ hD, szl (by omega), (s1.trans s2).mut nD, acc ++ [v'], upd_same, ?_⟩
      have tp : Tups H'' (upd H'' D (.lst (acc ++ [v']))) := tups_lst (s2 _ _ hD)
      rw [map_take_succ hej]
      exact Al.snoc (hacc.mono fun _ _ z => EnAt.mono tp (EnAt.mono s2.tups z)) (EnAt.mono tp he)
    rintro H1 ⟨s1, os, hD, hos⟩
    rw [hall.1, List.take_length] at hos
    let o := es.map (grown kk)
    have hol : os.length = o.length := hos.1
    have hosz : o.length ≤ 1000 := by show (es.map (grown kk)).length ≤ 1000; rw [List.length_map]; exact hsz
    have okn : ∀ e ∈ o, PyData.strOk e.1 = true := by
      intro e he
      obtain ⟨e0, h0, rfl⟩ := List.mem_map.mp he
      unfold grown
      have hk0 := hkn e0 h0
      split
      · rename_i hz
        rw [hz]; show PyData.strOk "" = true; decide +kernel
      · rename_i hz
        obtain ⟨i, hi⟩ := hk0.resolve_left hz
        split
        · exact ko.str _ _ hi
        · show PyData.strOk "" = true; decide +kernel
    -- just
    have SO : SqL K H1 D os := SqL.of hD
    refine ⟨_, rfl, D, os, rfl, SO, fun D2 nD2 => lc_it (walk_enum (xs := os)) (fun j H' => Same H1 H' ∧ H' D2 = some (.lst ((idxs (isJust kk) 0 (o.take j)).map V.int)))
      ⟨same_upd nD2, upd_same⟩ (fun j H' _ hh => SqL.of (hh.1 _ _ hD)) ?_ ?_⟩
    · rintro j y H' H'' hj ⟨s2, hD2⟩ ⟨Tt, x1, x2, rfl, nT, rfl, e1, e2⟩
      cases e1
      obtain ⟨e, hej, b', rfl, hb'⟩ := hos.at e2
      have sT := same_upd (o := HO.tup [V.int (j : Nat), V.ref b']) nT
      have s12 := s2.trans sT
      refine ⟨Tt, _, rfl, SqT.of upd_same, rfl, _, _, rfl, _, _, rfl, rfl, rfl, ?_⟩
      refine ⟨_, rfl, _, rfl, ?_⟩
      refine rd_slt (s12 _ _ hb') fun p1 H3 s3 h3 => ?_
      refine rd_t2 fun p2 H4 s4 h4 => ?_
      refine ⟨_, _, dp_pair (s4 _ _ h3), dp_pair h4, shaped_pair (okn e (List.mem_of_getElem? hej)), shaped_pair (by decide +kernel), _, rfl, ?_⟩
      rw [eqv_pair]
      have s24 : Same H' H4 := sT.trans (s3.trans s4)
      have hsn : idxs (isJust kk) 0 (o.take (j + 1)) = idxs (isJust kk) 0 (o.take j) ++ (if isJust kk e then [((j : Nat) : Int)] else []) := by
        rw [take_succ_at hej, idxs_snoc, take_len_at hej, Int.zero_add]
      have hjj : decide ((e.1, e.2) = (("" : Str), (2 : Int))) = isJust kk e := rfl
      rw [hjj]
      have hle : ((idxs (isJust kk) 0 (o.take j)).map V.int).length ≤ 1000 := by
        rw [List.length_map]
        refine Nat.le_trans (idxs_len _ _ _) ?_
        rw [List.length_take]; omega
      cases hb : isJust kk e with
      | true =>
        refine iteT ⟨_, rfl, _, s24 _ _ hD2, szl (by omega), (s2.trans s24).mut nD2, ?_⟩
        rw [upd_same, hsn, hb, if_pos rfl, List.map_append]; rfl
      | false =>
        refine iteF ⟨s2.trans s24, ?_⟩
        rw [hsn, hb, if_neg Bool.false_ne_true, List.append_nil]
        exact s24 _ _ hD2
    rintro H2 ⟨s2, hD2⟩
    rw [hol, List.take_length] at hD2
    -- if not just
    refine ⟨_, rfl, _, .inl ⟨_, SqL.of hD2, rfl⟩, ?_⟩
    cases hj : idxs (isJust kk) 0 o with
    | nil =>
      refine iteT ?_
      refine ⟨_, rfl, D, os, rfl, .inl ⟨SqL.of (s2 _ _ hD), fun l hl => ?_⟩⟩
      have s3 := same_upd (o := HO.tup os) hl
      refine k _ _ ((s1.trans s2).trans s3) ⟨l, os, rfl, upd_same, ?_⟩
      have e : agedS kk es = o := (AgedIs.eq kk (.inl ⟨hj, rfl⟩)).symm
      show Al _ os (agedS kk es)
      rw [e]
      exact hos.mono fun _ _ => EnAt.mono (s2.trans s3).tups
    | cons j0 js =>
      refine iteF ?_
      rw [hj] at hD2
      -- present = just[-1]
      obtain ⟨pre, pr, hpr⟩ : ∃ pre pr, j0 :: js = pre ++ [pr] := by
        rcases List.eq_nil_or_concat (j0 :: js) with h | ⟨pre, pr, h⟩
        · cases h
        · exact ⟨pre, pr, by rw [h, List.concat_eq_append]⟩
      rw [hpr] at hD2
      refine ⟨_, rfl, _, rfl, D2, _, _, _, rfl, rfl, SqL.of hD2, (by rw [List.map_append]; exact atI_last _ _), ?_⟩
      -- last = max(..)
      refine ⟨_, rfl, D, os, rfl, SqL.of (s2 _ _ hD), fun D3 nD3 => lc_it (walk_enum (xs := os)) (fun j H' => Same H2 H' ∧ H' D3 = some (.lst ((idxs (isWr kk) 0 (o.take j)).map V.int)))
        ⟨same_upd nD3, upd_same⟩ (fun j H' _ hh => SqL.of (hh.1 _ _ (s2 _ _ hD))) ?_ ?_⟩
      · rintro j y H' H'' hj ⟨s3, hD3⟩ ⟨Tt, x1, x2, rfl, nT, rfl, e1, e2⟩
        cases e1
        obtain ⟨e, hej, b', rfl, hb'⟩ := hos.at e2
        have sT := same_upd (o := HO.tup [V.int (j : Nat), V.ref b']) nT
        have s12 := (s2.trans s3).trans sT
        refine ⟨Tt, _, rfl, SqT.of upd_same, rfl, _, _, rfl, _, _, rfl, rfl, rfl, ?_⟩
        refine ⟨_, rfl, b', _, 0, _, rfl, rfl, SqT.of (s12 _ _ hb'), rfl, rfl, _, rfl, ?_⟩
        have hsn : idxs (isWr kk) 0 (o.take (j + 1)) = idxs (isWr kk) 0 (o.take j) ++ (if isWr kk e then [((j : Nat) : Int)] else []) := by
          rw [take_succ_at hej, idxs_snoc, take_len_at hej, Int.zero_add]
        have hjj : decide (V.str e.1 = V.str "") = isWr kk e := by
          unfold isWr
          by_cases hz : e.1 = ""
          · rw [decide_eq_true (congrArg V.str hz), decide_eq_true (show e.1 = kk.z from hz)]
          · rw [decide_eq_false (fun q => hz (V.str.inj q)), decide_eq_false (show ¬ e.1 = kk.z from hz)]
        rw [hjj]
        have hle : ((idxs (isWr kk) 0 (o.take j)).map V.int).length ≤ 1000 := by
          rw [List.length_map]
          refine Nat.le_trans (idxs_len _ _ _) ?_
          rw [List.length_take]; omega
        cases hb : isWr kk e with
        | true =>
          refine iteT ⟨_, rfl, _, sT _ _ hD3, szl (by omega), (s3.trans sT).mut nD3, ?_⟩
          rw [upd_same, hsn, hb, if_pos rfl, List.map_append]; rfl
        | false =>
          refine iteF ⟨s3.trans sT, ?_⟩
          rw [hsn, hb, if_neg Bool.false_ne_true, List.append_nil]
          exact sT _ _ hD3
      rintro H3 ⟨s3, hD3⟩
      rw [hol, List.take_length] at hD3
      have hwn : idxs (isWr kk) 0 o ≠ [] := fun z => by
        rw [idxs_nil] at z
        have hJ : hasJ kk o = true := by
          cases hh : hasJ kk o with
          | true => rfl
          | false => rw [(idxs_nil (isJust kk) o 0).mpr hh] at hj; cases hj
        have := hasJ_hasW kk o hJ
        unfold hasW at this
        rw [z] at this; cases this
      refine ⟨D3, _, rfl, SqL.of hD3, List.length_pos_iff.mpr hwn, fun q hq hqm => ?_⟩
      -- kept = []
      refine rd_l0 fun D4 H4 nD4 s4 hD4 => ?_
      have s24 : Same H2 H4 := s3.trans s4
      refine ⟨_, rfl, D, os, rfl, SqL.of (s24 _ _ (s2 _ _ hD)), for_it (walk_enum (xs := os)) (fun j σ' H' => (∃ v2 v4, σ' = [some (.ref a), some (.ref A1), v2, some (.ref D), v4, some (.ref D2), some (.int pr), some (.int q), some (.ref D4)]) ∧ Same H3 H' ∧ ∃ acc, H' D4 = some (.lst acc) ∧ Al (EnAt H') acc (kept kk pr q 0 (o.take j)))
        ⟨⟨_, _, rfl⟩, s4, [], hD4, Al.nil⟩ (fun j σ' H' _ hh => SqL.of (hh.2.1 _ _ (s3 _ _ (s2 _ _ hD)))) ?_ ?_⟩
      · rintro j y σ' H' H'' hj ⟨⟨v2, v4, rfl⟩, s5, acc, hacc, hal⟩ ⟨Tt, x1, x2, rfl, nT, rfl, e1, e2⟩
        cases e1
        obtain ⟨e, hej, b', rfl, hb'⟩ := hos.at e2
        have sT := same_upd (o := HO.tup [V.int (j : Nat), V.ref b']) nT
        have s13 : Same H1 (upd H' Tt (.tup [V.int (j : Nat), V.ref b'])) := s2.trans (s3.trans (s5.trans sT))
        have hbb := s13 _ _ hb'
        have hacc2 := sT _ _ hacc
        have s35 := s5.trans sT
        have hkn1 : kept kk pr q 0 (o.take (j + 1)) = kept kk pr q 0 (o.take j) ++ (keep1 kk pr q j e).toList := by
          rw [take_succ_at hej, kept_snoc, take_len_at hej, Int.zero_add]
        have klen : ∀ (l : List K3.E) (i : Int), (kept kk pr q i l).length ≤ l.length := by
          intro l
          induction l with
          | nil => intro i; exact Nat.le_refl _
          | cons d l ih =>
            intro i
            have := ih (i + 1)
            unfold kept
            rw [List.length_append, List.length_cons]
            have : (keep1 kk pr q i d).toList.length ≤ 1 := by cases keep1 kk pr q i d <;> simp
            omega
        have hle : acc.length ≤ 1000 := by
          rw [hal.1]
          refine Nat.le_trans (klen _ _) ?_
          rw [List.length_take]; omega
        -- the list, one longer
        have fin : ∀ (v' : V) (H5 : Hp) (e' : K3.E), Same (upd H' Tt (.tup [V.int (j : Nat), V.ref b'])) H5 → EnAt H5 v' e' → keep1 kk pr q j e = some e' →
            (Same H3 (upd H5 D4 (.lst (acc ++ [v']))) ∧ ∃ acc', (upd H5 D4 (.lst (acc ++ [v']))) D4 = some (.lst acc') ∧ Al (EnAt (upd H5 D4 (.lst (acc ++ [v'])))) acc' (kept kk pr q 0 (o.take (j + 1)))) := by
          intro v' H5 e' s6 he hk1
          have hD5 := s6 _ _ hacc2
          have tp : Tups H5 (upd H5 D4 (.lst (acc ++ [v']))) := tups_lst hD5
          refine ⟨(s35.trans s6).mut nD4, acc ++ [v'], upd_same, ?_⟩
          rw [hkn1, hk1]
          exact Al.snoc (hal.mono fun _ _ z => EnAt.mono tp (EnAt.mono (sT.trans s6).tups z)) (EnAt.mono tp he)
        refine ⟨Tt, _, rfl, SqT.of upd_same, rfl, _, _, rfl, _, _, rfl, rfl, ?_⟩
        refine ⟨_, rfl, b', _, 0, _, rfl, rfl, SqT.of hbb, rfl, rfl, _, rfl, ?_⟩
        by_cases hz : e.1 = ""
        · rw [show decide ((V.str e.1) = V.str "") = true from decide_eq_true (congrArg V.str hz)]
          refine iteF ?_
          refine ⟨_, rfl, _, rfl, rfl, _, rfl, ?_⟩
          by_cases hp : ((j : Nat) : Int) = pr
          · rw [show decide ((V.int (j : Nat)) = V.int pr) = true from decide_eq_true (congrArg V.int hp)]
            refine iteT ?_
            refine ⟨_, rfl, .inl ⟨rfl, _, SqL.of hacc2⟩, ?_⟩
            refine rd_t2 fun p5 H5 s5' h5 => ?_
            refine ⟨_, rfl, _, rfl, ?_⟩
            refine rd_slt (s5' _ _ hbb) fun p6 H6 s6 h6 => ?_
            refine rd_cat (s6 _ _ h5) h6 (by rw [show cutV [V.str e.1, V.int e.2] (some 2) none = [] from rfl]; decide) fun p7 H7 s7 h7 => ?_
            have s57 := s5'.trans (s6.trans s7)
            refine ⟨D4, acc, _, rfl, rfl, s57 _ _ hacc2, szl (by omega), ⟨_, _, rfl⟩, fin _ _ (("", 0) : K3.E) s57 ⟨p7, rfl, h7⟩ ?_⟩
            unfold keep1
            rw [if_pos (show e.1 = kk.z from hz), if_pos hp]; rfl
          · rw [show decide ((V.int (j : Nat)) = V.int pr) = false from decide_eq_false fun z => hp (V.int.inj z)]
            refine iteF ?_
            refine ⟨_, rfl, _, rfl, rfl, _, rfl, ?_⟩
            by_cases hq2 : ((j : Nat) : Int) = q
            · rw [show decide ((V.int (j : Nat)) = V.int q) = true from decide_eq_true (congrArg V.int hq2)]
              refine iteT ?_
              refine ⟨_, rfl, .inl ⟨rfl, _, SqL.of hacc2⟩, ?_⟩
              refine rd_t2 fun p5 H5 s5' h5 => ?_
              refine ⟨_, rfl, _, rfl, ?_⟩
              refine rd_slt (s5' _ _ hbb) fun p6 H6 s6 h6 => ?_
              refine rd_cat (s6 _ _ h5) h6 (by rw [show cutV [V.str e.1, V.int e.2] (some 2) none = [] from rfl]; decide) fun p7 H7 s7 h7 => ?_
              have s57 := s5'.trans (s6.trans s7)
              refine ⟨D4, acc, _, rfl, rfl, s57 _ _ hacc2, szl (by omega), ⟨_, _, rfl⟩, fin _ _ (("", 1) : K3.E) s57 ⟨p7, rfl, h7⟩ ?_⟩
              unfold keep1
              rw [if_pos (show e.1 = kk.z from hz), if_neg hp, if_pos hq2]; rfl
            · rw [show decide ((V.int (j : Nat)) = V.int q) = false from decide_eq_false fun z => hq2 (V.int.inj z)]
              refine iteF ⟨⟨_, _, rfl⟩, s35, acc, hacc2, ?_⟩
              have hk1 : keep1 kk pr q j e = none := by
                unfold keep1
                rw [if_pos (show e.1 = kk.z from hz), if_neg hp, if_neg hq2]
              rw [hkn1, hk1]
              rw [show (none : Option K3.E).toList = [] from rfl, List.append_nil]
              exact hal.mono fun _ _ => EnAt.mono sT.tups
        · rw [show decide ((V.str e.1) = V.str "") = false from decide_eq_false fun z => hz (V.str.inj z)]
          refine iteT ?_
          refine ⟨_, rfl, .inl ⟨rfl, _, SqL.of hacc2⟩, _, rfl, D4, acc, _, rfl, rfl, hacc2, szl (by omega), ⟨_, _, rfl⟩, fin _ _ _ (Same.refl _) ⟨b', rfl, hbb⟩ ?_⟩
          unfold keep1
          rw [if_neg (show ¬ e.1 = kk.z from hz)]
      · rintro σ' H' ⟨⟨v2, v4, rfl⟩, s5, acc, hacc, hal⟩
        rw [hol, List.take_length] at hal
        refine ⟨_, rfl, D4, acc, rfl, .inl ⟨SqL.of hacc, fun l hl => ?_⟩⟩
        have s6 := same_upd (o := HO.tup acc) hl
        refine k _ _ ((((s1.trans s2).trans s3).trans s5).trans s6) ⟨l, acc, rfl, upd_same, ?_⟩
        have e : kept kk pr q 0 o = agedS kk es := AgedIs.eq kk (.inr ⟨pr, q, by rw [hj, hpr, gl_snoc], hq, hqm, rfl⟩)
        show Al _ acc (agedS kk es)
        rw [← e]
        exact hal.mono fun _ _ => EnAt.mono s6.tups
end
end K3
namespace K3
open PySem PySem.Spec PyProof.Rows L2
theorem lawRow_len (k : Kd Str) (t : Int) (l : List W) : (lawRow k t l).length ≤ l.length + 1 := by
  unfold lawRow
  rw [List.length_append]
  have h1 := List.length_filterMap_le (row1 k t (lastL k t l) (newestThere k t l)) l
  have h2 : (if (lastL k t l).isSome then ([] : List E) else [(k.z, 0)]).length ≤ 1 := by split <;> simp
  omega
/-- writers whose kinds are known -/
structure WOk (ks : KT) (l : List W) : Prop where
  kn : ∀ w ∈ l, Kn ks w.kind
  nd : l.Nodup
  sz : l.length ≤ 100
theorem WOk.nz {ks : KT} {l : List W} (h : WOk ks l) (ko : KOk ks) : ∀ w ∈ l, w.kind ≠ (kd ks).z := fun w hw e => by
  obtain ⟨i, hi⟩ := h.kn w hw
  have e' : w.kind = "" := e
  rw [e', ko.no] at hi; cases hi
theorem WOk.row {ks : KT} {l : List W} (h : WOk ks l) (t : Int) : RowOk ks (lawRow (kd ks) t l) where
  ne := fun z => by have := row_last (kd ks) t l; rw [z] at this; cases this
  kn := fun e he => by
    rcases mem_lawRow (kd ks) he with h1 | ⟨w, hw, _, rfl⟩
    · exact .inl h1
    · exact .inr (h.kn w hw)
  sz := Nat.le_trans (lawRow_len _ _ _) (by have := h.sz; omega)
section
variable {P : Program} {w : World} {K : PySem.W.Frag} {mg : Str → Option Value} {base : Heap} {C : Addr}
def spEnded (ks : KT) : Sp := fun vs H Q _ => ∃ (a : Addr) (v : V) (t B : Int) (l : List W), vs = [.ref a, v] ∧ KdAt H a ks ∧ EnsAt H v (lawRow (kd ks) t l) ∧ WOk ks l ∧ (∀ w ∈ l, land (kd ks) w ≤ B) ∧
  ∀ v' H' t', Same H H' → EnsAt H' v' (lawRow (kd ks) t' l) → (∀ w ∈ l, there (kd ks) t' w = true) → Q v' H'
abbrev nEnded : List Str := ["kinds", "entries", "entry"]
theorem scEnded : FnScope nEnded ["kinds", "entries"] (defScope sEnded) := ⟨rfl, rfl, rfl, by decide +kernel, rfl, by decide +kernel, by decide +kernel⟩
theorem ok_ended {ks : KT} {f fG : Addr} {fd fdG : FuncData} (F : Fun K "ended" "ended" sEnded f fd) (T : Txt K mg) (ko : KOk ks) (DG : Dfn P w K mg base "aged" 2 ["kinds", "entries"] (spAged ks) fG fdG) : FnOk P w K mg base CX0 3 f fd ["kinds", "entries"] (spEnded ks) := by
  refine F.ok scEnded (fun vs H Q E h => ?_) (fun cdv A outer s H vs Q E hr h => ?_)
  · obtain ⟨a, v, t, B, l, rfl, _⟩ := h
    rfl
  · obtain ⟨a, v, t, B, l, rfl, hkd, hens, wok, hB, k⟩ := h
    have hu := hu_of hr
    have nd := scEnded.nd
    refine ⟨_, pss_cons (ps_while PassesOwn.never (pt_val (pe_callB (cr_any rfl) (by rfl) T.any (by decide +kernel) (pa_cons
          (pe_lc (own := [("entry", 2)]) (g := gName 2) (by rfl) nd (pi_tup (pv 1)) (blkOk_by (N := nEnded) (sc := defScope sEnded) (by decide +kernel))
            (fun _ _ _ _ _ => pg_name (i := 2) nd rfl (.inl rfl)) (fun _ _ _ _ _ => pts_nil) (fun _ _ _ _ _ => pe_cmpR op_ne (pe_ix (ixT K) (pv 2) pe_int (fun _ _ => rfl)) (pgl T.W) (nomark _))) pa_nil)))
        (pss_one (ps_set (i := 1) nd rfl (.inl rfl) (pcl DG hr (pa_cons (pv 0) (pa_cons (pv 1) pa_nil))))))
      (pss_one (ps_ret (pv 1))), ?_⟩
    refine ⟨fun m σ' H' => ∃ t' v' v2, m = (B - t').toNat ∧ σ' = [some (.ref a), some v', v2] ∧ Same H H' ∧ EnsAt H' v' (lawRow (kd ks) t' l), ⟨_, t, v, none, rfl, rfl, Same.refl H, hens⟩, ?_⟩
    rintro m σ' H' ⟨t', v', v2, rfl, rfl, s1, A1, xs, rfl, hA, hall⟩
    have rok := wok.row t'
    let r := lawRow (kd ks) t' l
    refine ⟨_, rfl, A1, rfl, ⟨_, SqT.of hA⟩, fun D nD => lc_tup (K := K) (xs := xs) (fun j H'' => Same H' H'' ∧ H'' D = some (.lst ((r.take j).map fun e => V.bl (!(isWr (kd ks) e)))))
      ⟨same_upd nD, upd_same⟩ (fun j H'' _ hh => SqT.of (hh.1 _ _ hA)) ?_ ?_⟩
    · rintro j y H'' hj ⟨s2, hD⟩
      obtain ⟨e, hej, b', rfl, hb'⟩ := hall.at hj
      have hjl : j < r.length := (List.getElem?_eq_some_iff.mp hej).1
      refine ⟨rfl, ?_⟩
      refine ⟨_, rfl, b', _, 0, _, rfl, rfl, SqT.of (s2 _ _ hb'), rfl, rfl, _, hD, ?_, s2.mut nD, ?_⟩
      · rw [List.length_map, List.length_take]
        have := rok.sz
        exact szl (by show min j r.length ≤ 100000; have : r.length ≤ 1000 := rok.sz; omega)
      · rw [upd_same, map_take_succ hej]
        have hjj : decide (V.str e.1 = V.str "") = isWr (kd ks) e := by
          unfold isWr
          by_cases hz : e.1 = ""
          · rw [decide_eq_true (congrArg V.str hz), decide_eq_true (show e.1 = (kd ks).z from hz)]
          · rw [decide_eq_false (fun q => hz (V.str.inj q)), decide_eq_false (show ¬ e.1 = (kd ks).z from hz)]
        rw [hjj]
    rintro H2 ⟨s2, hD⟩
    rw [hall.1, List.take_length] at hD
    refine ⟨D, r.map (fun e => !(isWr (kd ks) e)), rfl, ?_, _, rfl, ?_⟩
    · rw [List.map_map]; exact SqL.of hD
    have eany : (r.map (fun e => !(isWr (kd ks) e))).any id = r.any fun e => !(isWr (kd ks) e) := by
      rw [List.any_map]; rfl
    rw [eany]
    have nz := wok.nz ko
    cases hany : r.any fun e => !(isWr (kd ks) e) with
    | false =>
      refine iteF ?_
      exact ⟨_, rfl, k _ H2 t' (s1.trans s2) ⟨A1, xs, rfl, s2 _ _ hA, hall.mono fun _ _ => EnAt.mono s2.tups⟩ ((all_there (kd ks) t' l nz).mp hany)⟩
    | true =>
      refine iteT ?_
      have hlt : t' < B := by
        apply Classical.byContradiction
        intro hge
        have h1 : (r.any fun e => !(isWr (kd ks) e)) = false := (all_there (kd ks) t' l nz).mpr fun w hw => decide_eq_true (by have := hB w hw; omega)
        rw [hany] at h1; cases h1
      refine ⟨fun σ'' H'' => ∃ v'' v2', σ'' = [some (.ref a), some v'', v2'] ∧ Same H H'' ∧ EnsAt H'' v'' (lawRow (kd ks) (t' + 1) l), fun σ'' H'' hN => ?_, ?_⟩
      · obtain ⟨v'', v2', rfl, s3, hE⟩ := hN
        exact ⟨(B - (t' + 1)).toNat, by omega, t' + 1, v'', v2', rfl, rfl, s3, hE⟩
      · refine ⟨_, rfl, _, rfl, a, _, r, rfl, hkd.same (s1.trans s2), ⟨A1, xs, rfl, s2 _ _ hA, hall.mono fun _ _ => EnAt.mono s2.tups⟩, rok.kn, rok.sz, fun v'' H'' s3 hE => ?_⟩
        refine ⟨v'', v2, rfl, (s1.trans s2).trans s3, ?_⟩
        rw [← aged_row (kd ks) t' l wok.nd nz]
        exact hE
end
end K3
namespace K3
open PySem PySem.Spec PyProof.Rows L2
/-! ### a dict whose keys are tuples of entries, told by what stands in it -/
def keyEn (e : E) : NestedKey := .tup [.text e.1, .num e.2]
def keyEs (es : List E) : NestedKey := .tup (es.map keyEn)
theorem keyEn_inj {e f : E} (h : keyEn e = keyEn f) : e = f := by
  unfold keyEn at h
  injection h with h
  injection h with h1 h2
  injection h1 with h1
  injection h2 with h2 _
  injection h2 with h2
  exact Prod.ext h1 h2
theorem keyEs_inj {es fs : List E} (h : keyEs es = keyEs fs) : es = fs := by
  unfold keyEs at h
  injection h with h
  induction es generalizing fs with
  | nil => cases fs with
    | nil => rfl
    | cons f fs => cases h
  | cons e es ih => cases fs with
    | nil => cases h
    | cons f fs =>
      simp only [List.map_cons, List.cons.injEq] at h
      rw [keyEn_inj h.1, ih h.2]
theorem keyEs_depth (es : List E) : (keyEs es).depth ≤ 8 := by
  have h1 : ∀ es : List E, NestedKey.depthAll (es.map keyEn) ≤ 1 := by
    intro es
    induction es with
    | nil => exact Nat.zero_le _
    | cons e es ih =>
      rw [List.map_cons]
      unfold NestedKey.depthAll
      have : (keyEn e).depth = 1 := rfl
      rw [this]
      exact Nat.max_le.mpr ⟨Nat.le_refl _, ih⟩
  unfold keyEs NestedKey.depth
  have := h1 es
  omega
/-- an entry that is kept: the key, its own tuple, the value's tuple -/
abbrev Kp := List E × Addr × Addr
def kx (q : Kp) : NestedKey × Addr × Value := (keyEs q.1, q.2.1, .ref q.2.2)
def cph (P : Program) (w : World) (c : Addr) (xs : List Kp) : Heap → Prop := fun h => (c == sysModules) = false ∧ ∃ o es ep, h.get? c = some o ∧ o.ExactDict ∧ o.data = .dict es ep ∧ es.toList = (xs.map kx).map (entryOfKey (nestedKind P w)) ∧ ((xs.map kx).map (·.1)).Nodup
def CacheO (P : Program) (w : World) (c : Addr) (xs : List Kp) : HO := .ext (cph P w c xs)
theorem cph_ok {P : Program} {w : World} {H : Hp} {h : Heap} {c : Addr} {xs : List Kp} (p : cph P w c xs h) : ObjOk P w H h c (CacheO P w c xs) := by
  refine ⟨p, ?_, ?_⟩
  · obtain ⟨_, o, _, _, e, _⟩ := p
    exact ⟨o, e⟩
  · rintro h1 h2 ⟨z, o, es, ep, e, r⟩ hk
    exact ⟨z, o, es, ep, hk o e, r⟩
section
variable {P : Program} {w : World} {H : Hp} {h : Heap}
theorem nested_of (ok : HOk P w H h) {es : List E} {a : Addr} {xs : List V} (ha : H a = some (.tup xs)) (hal : Al (EnAt H) xs es) : (nestedKind P w).is h (keyEs es) a := by
  refine ⟨?_, keyEs_depth es⟩
  obtain ⟨_, its, r, o, h1, h2, n, h3⟩ := (show ObjOk P w H h a (.tup xs) from ok a _ ha)
  refine .tup h1 h2 h3 ?_
  have key : ∀ (xs : List V) (es : List E) (its : List Value), Vals xs its → Al (EnAt H) xs es → NestedAll h (es.map keyEn) its := by
    intro xs
    induction xs with
    | nil =>
      intro es its r hal
      cases r
      have := hal.1
      cases es with
      | nil => exact .nil
      | cons _ _ => simp at this
    | cons x xs ih =>
      intro es its r hal
      cases r with
      | cons rx rr =>
        cases es with
        | nil => have := hal.1; simp at this
        | cons e es =>
          have h0 := hal.2 0 x e rfl rfl
          obtain ⟨b, rfl, hb⟩ := h0
          have hx : Al (EnAt H) xs es := ⟨by have := hal.1; simp at this; exact this, fun i y d hy hd => hal.2 (i + 1) y d (by simpa using hy) (by simpa using hd)⟩
          rw [List.map_cons]
          refine .cons ?_ (ih es _ rr hx)
          cases (show _ = Value.ref b from rx)
          obtain ⟨_, its', r', o', g1, g2, n', g3⟩ := (show ObjOk P w H h b (.tup _) from ok b _ hb)
          refine .tup g1 g2 g3 ?_
          cases r' with
          | cons q1 r' =>
            cases r' with
            | cons q2 r' =>
              cases r'
              obtain ⟨t1, rfl⟩ := (show ∃ t, _ = Value.str e.1 t from q1)
              obtain ⟨t2, rfl⟩ := (show ∃ t, _ = Value.int e.2 t from q2)
              exact .cons (.text _ _) (.cons (.int _ _) .nil)
  simpa using key xs es its r hal
end
/-- what is kept is told right: each value is what the program makes of its key -/
structure CacheAt (P : Program) (w : World) (ks : KT) (H : Hp) (c : Addr) (xs : List Kp) : Prop where
  at_ : H c = some (CacheO P w c xs)
  ok : ∀ q ∈ xs, EnsAt H (.ref q.2.1) q.1 ∧ EnsAt H (.ref q.2.2) (agedS (kd ks) q.1)
theorem CacheAt.same {P : Program} {w : World} {ks : KT} {H H' : Hp} {c : Addr} {xs : List Kp} (h : CacheAt P w ks H c xs) (s : Same H H') : CacheAt P w ks H' c xs :=
  ⟨s _ _ h.at_, fun q hq => ⟨(h.ok q hq).1.mono s.tups, (h.ok q hq).2.mono s.tups⟩⟩
/-- tuples stay when what is kept changes -/
theorem but_tups {P : Program} {w : World} {ks : KT} {H H' : Hp} {c : Addr} {xs : List Kp} (h : CacheAt P w ks H c xs) (b : But c H H') : Tups H H' := fun d ys e => b d _ (fun z => by rw [z, h.at_] at e; cases e) e
theorem at_mem {xs : List Kp} {es : List E} {p : Addr × Value} (h : atKey (xs.map kx) (keyEs es) = some p) : ∃ q ∈ xs, q.1 = es ∧ p = (q.2.1, .ref q.2.2) := by
  unfold atKey at h
  obtain ⟨x, hx, rfl⟩ := Option.map_eq_some_iff.mp h
  have h1 := List.mem_of_find?_eq_some hx
  have h2 : decide (x.1 = keyEs es) = true := List.find?_some (p := fun x : NestedKey × Addr × Value => decide (x.1 = keyEs es)) hx
  obtain ⟨q, hq, rfl⟩ := List.mem_map.mp h1
  exact ⟨q, hq, keyEs_inj (of_decide_eq_true h2), rfl⟩
section
variable {X : Cx}
theorem dict_of {pins : List (Addr × Obj)} {σ : L2.St} {H : Hp} {s : Shared} {ks : KT} {c : Addr} {xs : List Kp} (I : Inv X pins σ H s) (hc : CacheAt X.prog X.w ks H c xs) :
    (c == sysModules) = false ∧ s.heap.DictOfH (nestedKind X.prog X.w) c (xs.map kx) := by
  obtain ⟨⟨z, o, es, ep, h1, h2, h3, h4, h5⟩, _⟩ := I.hok c _ hc.at_
  refine ⟨z, o, es, ep, h1, h2, h3, h4, fun x hx => ?_, h5⟩
  obtain ⟨q, hq, rfl⟩ := List.mem_map.mp hx
  obtain ⟨a, ys, e, ha, hal⟩ := (hc.ok q hq).1
  cases e
  exact nested_of I.hok ha hal
theorem room_n {A : Around} (hu : A.units + 64 < cLine) : (nestedKind X.prog X.w).room A.in1 := by
  show A.in1.units + 8 < cLine
  have : A.in1.units = A.units + 1 := rfl
  omega
@[irreducible] def rCNotIn (P : Program) (w : World) (ks : KT) : R2 := fun x y H Q => ∃ (c : Addr) (xs : List Kp) (es : List E), y = .ref c ∧ CacheAt P w ks H c xs ∧ EnsAt H x es ∧
  Q (.bl (!(atKey (xs.map kx) (keyEs es)).isSome)) H
theorem op_cnotin (P : Program) (w : World) (ks : KT) (hu : X.A.units + 64 < cLine) (hP : X.prog = P := by rfl) (hw : X.w = w := by rfl) : OpR X (compareOp .NotIn) (rCNotIn P w ks) := by
  subst hP hw
  unfold rCNotIn
  intro pins s σ H x y v u Q I rx ry h
  obtain ⟨c, xs, es, rfl, hc, ⟨a, ys, rfl, ha, hal⟩, k⟩ := h
  cases rx
  cases ry
  obtain ⟨hd, hm⟩ := dict_of I hc
  refine wpAny_notIn_heap (room_n hu) (nested_of I.hok ha hal) hd hm ?_
  exact ⟨.bl _, H, I.tok _, rfl, k⟩
@[irreducible] def rCGet (P : Program) (w : World) (ks : KT) : R2 := fun x y H Q => ∃ (c : Addr) (es : List E) (xs : List Kp) (q : Kp), x = .ref c ∧ CacheAt P w ks H c xs ∧ EnsAt H y es ∧
  atKey (xs.map kx) (keyEs es) = some (q.2.1, .ref q.2.2) ∧ Q (.ref q.2.2) H
theorem ix_c (P : Program) (w : World) (ks : KT) (hu : X.A.units + 64 < cLine) (hP : X.prog = P := by rfl) (hw : X.w = w := by rfl) : IxR X (rCGet P w ks) := by
  subst hP hw
  unfold rCGet
  intro value slice pins s σ H x y v u Q I rx ry h hs
  obtain ⟨c, es, xs, q, rfl, hc, ⟨a, ys, rfl, ha, hal⟩, hat, k⟩ := h
  cases rx
  cases ry
  obtain ⟨hd, hm⟩ := dict_of I hc
  refine subscriptTail_builtinR (x := .ref q.2.2) hm.typeIs PySem.F.slot_dict_getitem.lookup ?_ hs
  refine wpAny_getItem_heap (room_n hu) (nested_of I.hok ha hal) hm hat ?_
  exact ⟨rfl, .ref q.2.2, H, I.tok _, rfl, k⟩
@[irreducible] def rCSet (P : Program) (w : World) (ks : KT) : V → V → V → Hp → (Hp → Prop) → Prop := fun o i v H Q => ∃ (c ka va : Addr) (es : List E) (xs : List Kp), o = .ref c ∧ i = .ref ka ∧ v = .ref va ∧ CacheAt P w ks H c xs ∧ EnsAt H i es ∧
  atKey (xs.map kx) (keyEs es) = none ∧ xs.length ≤ 100000 ∧ EnsAt H v (agedS (kd ks) es) ∧ ∀ H', But c H H' → CacheAt P w ks H' c (xs ++ [(es, ka, va)]) → Q H'
theorem set_c (P : Program) (w : World) (ks : KT) (hu : X.A.units + 64 < cLine) (hP : X.prog = P := by rfl) (hw : X.w = w := by rfl) : PSet X (rCSet P w ks) := by
  subst hP hw
  unfold rCSet
  intro pins s σ H o i v ov iv u Q I ro ri rv h
  obtain ⟨c, ka, va, es, xs, rfl, rfl, rfl, hc, he, hat, hl, hv, k⟩ := h
  cases ro
  cases ri
  cases rv
  obtain ⟨a, ys, e, ha, hal⟩ := id he
  cases e
  obtain ⟨hd, hm⟩ := dict_of I hc
  refine wpAny_setItem_heap (hsz := by rw [List.length_map]; exact sz hl) (room_n hu) (nested_of I.hok ha hal) hm fun h' dd' hs => ?_
  rw [storedH_new hat] at dd'
  have em : xs.map kx ++ [(keyEs es, ka, Value.ref va)] = (xs ++ [(es, ka, va)]).map kx := by rw [List.map_append]; rfl
  rw [em] at dd'
  obtain ⟨q, es', ep, hq, h2, h3, h4, _, h5⟩ := dd'
  have b : But c H (upd H c (CacheO X.prog X.w c (xs ++ [(es, ka, va)]))) := but_upd
  have tp := but_tups hc b
  refine ⟨upd H c (CacheO X.prog X.w c (xs ++ [(es, ka, va)])), ?_, k _ b ⟨upd_same, fun x hx => ?_⟩⟩
  · exact d_write I (by rw [hc.at_]; exact True.intro) hs ⟨q, hq⟩ (cph_ok ⟨hd, q, es', ep, hq, h2, h3, h4, h5⟩)
  · rcases List.mem_append.mp hx with hx | hx
    · exact ⟨(hc.ok x hx).1.mono tp, (hc.ok x hx).2.mono tp⟩
    · rw [List.mem_singleton] at hx; subst hx
      exact ⟨he.mono tp, hv.mono tp⟩
def tDNewC (P : Program) (w : World) : TE := fun _ H Q => ∀ p, H p = none → Q (.ref p) (upd H p (CacheO P w p []))
theorem pe_dnewC {pos : Pos} (P : Program) (w : World) (hP : X.prog = P := by rfl) (hw : X.w = w := by rfl) : PE X (.Dict [] [] pos) (tDNewC P w) := by
  subst hP hw
  refine ⟨fun pins s σ H Q I h => ?_⟩
  refine wpAny_Dict_empty ⟨.ref s.heap.objs.size, _, I.laid (a := s.heap.objs.size) (o := CacheO X.prog X.w s.heap.objs.size []) (t' := s.toks) (fun _ _ q => Heap.get?_push_of_some _ q) (Nat.le_refl _) (cph_ok ?_), rfl, h _ (I.hok.fresh (Nat.le_refl _))⟩
  exact ⟨beq_eq_false_iff_ne.mpr (Ne.symm (Nat.ne_of_lt I.big)), _, #[], 0, Heap.get?_push_size _ rfl, ⟨rfl, rfl, rfl⟩, rfl, rfl, List.nodup_nil⟩
end
end K3
set_option maxHeartbeats 1000000
namespace K3
open PySem PySem.Spec PyProof.Rows L2
/-! ### t * 1 is t -/
theorem tuple_mul1 (l : Addr) (items : Array Value) (n : Nat) (dd : Option Addr) (sl : Array (Option Value)) (u : Tok) :
    Meets (Builtin.«tuple.__mul__» ⟨[.ref l, .int 1 u], []⟩) (fun _ R s => s.heap.get? l = some { cls := .type "tuple", dict := dd, data := .seq items n, slots := sl } ∧
      R (.ok (.ret (Value.ref l))) s) :=
  .of_wp fun prog w A R s h => by
    obtain ⟨hp, g, d, tk, os⟩ := s
    obtain ⟨hl, h⟩ := h
    have f1 := AutoSeq1.idx_int
    wp_walk using wpAny_loadPart' hl
    exact ⟨_, rfl, h⟩
@[irreducible] def rRep (K : PySem.W.Frag) : R2 := fun x y H Q => ∃ a k xs, x = .ref a ∧ y = .int k ∧ H a = some (.tup xs) ∧ xs ≠ [] ∧ 1 ≤ k ∧ k ≤ 1000 ∧ xs.length ≤ 1000 ∧
  ∀ p H', Same H H' → H' p = some (.tup (List.replicate k.toNat xs).flatten) → Q (.ref p) H'
theorem op_rep {X : Cx} (K : PySem.W.Frag) (h : X.K = K := by rfl) : OpR X (binaryOp .Mult) (rRep K) := by
  unfold rRep
  intro pins s σ H x y v u Q I rx ry ⟨a, k, xs, e1, e2, hT, hne, h1, h2, hz, q⟩
  by_cases hk : k = 1
  · subst e1 e2 hk
    cases rx
    obtain ⟨t, rfl⟩ := ry
    obtain ⟨its, r, ⟨⟨cls, dd, data, sl⟩, ho, hc, n, hd⟩, hs⟩ := I.tuple (SqT.of hT)
    simp only at hc hd
    subst hc hd
    have ti : ∀ s' : Shared, s'.TypeIs (.int 1 t) "int" := fun s' => typeIs_int s' 1 t
    have ta : s.TypeIs (.ref a) "tuple" := ⟨_, ho, rfl⟩
    refine wpAny_binaryOp_repeat_ref (by decide) ta ti
      noFill_tuple_mul F.fills_int_mul F.slot_int_rmul repeat_tuple F.slot_int_index.lookup ?_
    refine call_meets F.slot_int_rmul (ti s) F.entry_int_rmul
      (F.args_int_rmul_2 _ _) (int_rmul_tuple 1 t a its.toArray n dd sl) ?_
    refine ⟨ho, rfl, ta, ?_⟩
    refine call_meets F.slot_tuple_mul ta F.entry_tuple_mul
      (F.args_tuple_mul_2 _ _) (tuple_mul1 a its.toArray n dd sl t) ?_
    exact ⟨ho, .ref a, H, I, rfl, q a H (Same.refl H) (by rw [hT]; simp)⟩
  · exact op_repT pins s σ H x y v u Q I rx ry ⟨a, k, xs, e1, e2, SqT.of hT, hne, by omega, h2, hz, fun p hp => q p _ (same_upd hp) upd_same⟩
end K3
namespace K3
open PySem PySem.Spec PyProof.Rows L2
theorem pfd {X : Cx} {e : Expr} {ta : TE} {f : Str} {pos : Pos} (K : PySem.W.Frag) (he : PE X e ta) (hb : attributeBase e f X.env (eval e X.env) = eval e X.env := by rfl) (h : X.K = K := by rfl) : PE X (.Attribute e f pos) (tFld K ta f) := h ▸ pe_fld he hb
theorem flat_rep {α : Type} (x : α) : ∀ n : Nat, (List.replicate n [x]).flatten = List.replicate n x
  | 0 => rfl
  | n + 1 => by rw [List.replicate_succ, List.flatten_cons, flat_rep x n, List.replicate_succ]; rfl
theorem al_rep {α : Type} {R : V → α → Prop} {x : V} {d : α} (h : R x d) (n : Nat) : Al R (List.replicate n x) (List.replicate n d) :=
  ⟨by simp, fun i y e a b => by
    have a' := List.getElem?_eq_some_iff.mp a
    have b' := List.getElem?_eq_some_iff.mp b
    obtain ⟨_, ha⟩ := a'
    obtain ⟨_, hb⟩ := b'
    rw [List.getElem_replicate] at ha hb
    subst ha hb; exact h⟩
/-- a method of the class at C, called -/
structure Dfm (P : Program) (w : World) (K : PySem.W.Frag) (mg : Str → Option Value) (base : Heap) (C : Addr) (m : Str) (k : Nat) (ps : List Str) (sp : Sp) (f : Addr) (fd : FuncData) : Prop where
  ok : FnOk P w K mg base CX0 k f fd ps sp
  meth : Meth K C m f
  b : Binds K fd ps []
theorem but_pipe {P : Program} {w : World} {ks : KT} {C : Addr} {H H' : Hp} {p kdA c : Addr} {t : PI0} {xs : List Kp} (hc : CacheAt P w ks H c xs) (b : But c H H') (h : PipeAt C H p kdA c t) : PipeAt C H' p kdA c t := by
  obtain ⟨dx, h⟩ := h
  exact ⟨dx, b _ _ (fun z => by rw [z, hc.at_] at h; cases h) h⟩
theorem but_kd {P : Program} {w : World} {ks ks' : KT} {H H' : Hp} {a c : Addr} {xs : List Kp} (hc : CacheAt P w ks H c xs) (b : But c H H') (h : KdAt H a ks') : KdAt H' a ks' := by
  obtain ⟨kvs, h1, h2⟩ := h
  refine ⟨kvs, ?_, h2.mono (but_tups hc b)⟩
  rcases h1 with h1 | ⟨o, h1⟩
  · exact .inl (b _ _ (fun z => by rw [z, hc.at_] at h1; cases h1) h1)
  · exact .inr ⟨o, b _ _ (fun z => by rw [z, hc.at_] at h1; cases h1) h1⟩
theorem rd_cnotin {P : Program} {w : World} {ks : KT} {H : Hp} {x : V} {c : Addr} {xs : List Kp} {es : List E} {Q : VK} (hc : CacheAt P w ks H c xs) (he : EnsAt H x es) (k : Q (.bl (!(atKey (xs.map kx) (keyEs es)).isSome)) H) : rCNotIn P w ks x (.ref c) H Q := by
  unfold rCNotIn
  exact ⟨c, xs, es, rfl, hc, he, k⟩
theorem rd_cget {P : Program} {w : World} {ks : KT} {H : Hp} {y : V} {c : Addr} {xs : List Kp} {es : List E} {Q : VK} (hc : CacheAt P w ks H c xs) (he : EnsAt H y es) (hs : (atKey (xs.map kx) (keyEs es)).isSome = true)
    (k : ∀ v, EnsAt H v (agedS (kd ks) es) → Q v H) : rCGet P w ks (.ref c) y H Q := by
  unfold rCGet
  obtain ⟨p, hp⟩ := Option.isSome_iff_exists.mp hs
  obtain ⟨q, hq, e1, e2⟩ := at_mem hp
  rw [e2] at hp
  exact ⟨c, es, xs, q, rfl, hc, he, hp, k _ (by rw [← e1]; exact (hc.ok q hq).2)⟩
theorem rd_cset {P : Program} {w : World} {ks : KT} {H : Hp} {i v : V} {c : Addr} {xs : List Kp} {es : List E} {Q : Hp → Prop} (hc : CacheAt P w ks H c xs) (he : EnsAt H i es) (hn : atKey (xs.map kx) (keyEs es) = none) (hl : xs.length ≤ 100000) (hv : EnsAt H v (agedS (kd ks) es))
    (k : ∀ H' a b, But c H H' → CacheAt P w ks H' c (xs ++ [(es, a, b)]) → Q H') : rCSet P w ks (.ref c) i v H Q := by
  unfold rCSet
  obtain ⟨a, ys, rfl, h1⟩ := id he
  obtain ⟨b, zs, rfl, h2⟩ := id hv
  exact ⟨c, a, b, es, xs, rfl, rfl, rfl, hc, he, hn, hl, hv, fun H' b1 b2 => k H' _ _ b1 b2⟩
theorem at_old {xs ys : List Kp} {es : List E} (h : (atKey (xs.map kx) (keyEs es)).isSome = true) : (atKey ((xs ++ ys).map kx) (keyEs es)).isSome = true := by
  unfold atKey at *
  rw [Option.isSome_map] at *
  rw [List.map_append, List.find?_append]
  cases hh : List.find? (fun x => decide (x.1 = keyEs es)) (xs.map kx) with
  | none => rw [hh] at h; cases h
  | some p => rfl
theorem at_new (xs : List Kp) (es : List E) (a b : Addr) : (atKey ((xs ++ [(es, a, b)]).map kx) (keyEs es)).isSome = true := by
  unfold atKey
  rw [Option.isSome_map, List.map_append, List.find?_append]
  cases hh : List.find? (fun x => decide (x.1 = keyEs es)) (xs.map kx) with
  | some p => rfl
  | none =>
    have : List.find? (fun x => decide (x.1 = keyEs es)) ([(es, a, b)].map kx) = some (kx (es, a, b)) := by
      show List.find? _ [kx (es, a, b)] = _
      rw [List.find?_cons_of_pos]
      exact decide_eq_true rfl
    rw [this]; rfl
section
variable {P : Program} {w : World} {K : PySem.W.Frag} {mg : Str → Option Value} {base : Heap} {C : Addr}
/-! ### Pipe.start -/
def spStart (C : Addr) (t : PI0) : Sp := fun vs H Q _ => ∃ (p kdA c : Addr), vs = [.ref p] ∧ PipeAt C H p kdA c t ∧ 1 ≤ t.regs ∧ t.regs ≤ 4 ∧ ∀ v' H', Same H H' → StAt H' v' (List.replicate t.regs.toNat [("", 0)]) → Q v' H'
theorem scStart : FnScope ["self"] ["self"] (defScope sStart) := ⟨rfl, rfl, rfl, by decide +kernel, rfl, by decide +kernel, by decide +kernel⟩
theorem ok_start {t : PI0} {f : Addr} {fd : FuncData} (F : Fun K "start" "Pipe.start" sStart f fd) (T : Txt K mg) (TC : TxtC K mg C) : FnOk P w K mg base CX0 1 f fd ["self"] (spStart C t) := by
  refine F.ok scStart (fun vs H Q E h => ?_) (fun cdv A outer s H vs Q E hr h => ?_)
  · obtain ⟨p, kdA, c, rfl, _⟩ := h
    rfl
  · obtain ⟨p, kdA, c, rfl, ⟨dx, hp⟩, h1, h4, k⟩ := h
    refine ⟨_, pss_one (ps_ret (pe_op (op_rep K) (ptup (pa_cons (ptup (pa_cons (ptup (pa_cons pe_str (pa_cons (pgl T.P) pa_nil))) pa_nil)) pa_nil)) (pe_fld (pv 0) rfl))), ?_⟩
    refine rd_t2 fun p1 H1 s1 e1 => rd_t1 fun p2 H2 s2 e2 => rd_t1 fun p3 H3 s3 e3 => ?_
    have s13 := (s1.trans s2).trans s3
    refine ⟨_, rfl, p, C, dx, _, _, rfl, s13 _ _ hp, TC.cl, TC.nr, pfl_r, ?_⟩
    show rRep K (.ref p3) (.int t.regs) H3 _
    unfold rRep
    refine ⟨p3, t.regs, _, rfl, rfl, e3, (fun z => nomatch z), h1, by omega, (by show 1 ≤ 1000; decide), fun p4 H4 s4 e4 => ?_⟩
    rw [flat_rep] at e4
    have r1 : EnAt H4 (.ref p1) (("", 0) : K3.E) := ⟨p1, rfl, s4 _ _ (s3 _ _ (s2 _ _ e1))⟩
    have r2 : EnsAt H4 (.ref p2) [(("", 0) : K3.E)] := ⟨p2, _, rfl, s4 _ _ (s3 _ _ e2), Al.one r1⟩
    exact k _ _ (s13.trans s4) ⟨p4, _, rfl, e4, al_rep r2 _⟩
/-! ### Pipe.later -/
def spLater (P : Program) (w : World) (C : Addr) (t : PI0) : Sp := fun vs H Q _ => ∃ (p kdA c : Addr) (v : V) (st : List (List K3.E)) (xs : List Kp), vs = [.ref p, v] ∧ PipeAt C H p kdA c t ∧ KdAt H kdA t.ks ∧ CacheAt P w t.ks H c xs ∧ StAt H v st ∧ (∀ r ∈ st, RowOk t.ks r) ∧
  st.length ≤ 1000 ∧ xs.length + st.length ≤ 90000 ∧ ∀ v' H' xs', But c H H' → CacheAt P w t.ks H' c xs' → xs'.length ≤ xs.length + st.length → StAt H' v' (st.map (agedS (kd t.ks))) → Q v' H'
abbrev nLater : List Str := ["self", "standing", "entries"]
theorem scLater : FnScope nLater ["self", "standing"] (defScope sLater) := ⟨rfl, rfl, rfl, by decide +kernel, rfl, by decide +kernel, by decide +kernel⟩
theorem ok_later {t : PI0} {f fA : Addr} {fd fdA : FuncData} (F : Fun K "later" "Pipe.later" sLater f fd) (T : Txt K mg) (TC : TxtC K mg C) (DA : Dfn P w K mg base "aged" 2 ["kinds", "entries"] (spAged t.ks) fA fdA) : FnOk P w K mg base CX0 3 f fd ["self", "standing"] (spLater P w C t) := by
  refine F.ok scLater (fun vs H Q E h => ?_) (fun cdv A outer s H vs Q E hr h => ?_)
  · obtain ⟨p, kdA, c, v, st, xs, rfl, _⟩ := h
    rfl
  · obtain ⟨p, kdA, c, v, st, xs, rfl, hpipe, hkd, hc, ⟨A1, ys, rfl, hA, hall⟩, rok, hsz, hxs, k⟩ := h
    have nd := scLater.nd
    refine ⟨_, pss_cons (ps_for PassesOwn.never rfl (pi_tup (pv 1)) (pg_name (i := 2) nd rfl (.inl rfl))
        (pss_one (ps_if (pt_cmpR (op_cnotin P w t.ks hr.units) (pv 2) (pe_fld (pv 0) rfl) (by rfl))
          (pss_one (ps_asg (pcl DA hr (pa_cons (pe_fld (pv 0) rfl) (pa_cons (pv 2) pa_nil))) (pg_sub (pe_fld (pv 0) rfl) (pv 2) (set_c P w t.ks hr.units)))) pss_nil)))
      (pss_one (ps_ret (pe_callTy call_tuple_of (by rfl) T.tuple (by decide +kernel) (pa_cons
        (pe_lc (own := [("entries", 2)]) (g := gName 2) (by rfl) nd (pi_tup (pv 1)) (blkOk_by (N := nLater) (sc := defScope sLater) (by decide +kernel))
          (fun _ _ _ _ _ => pg_name (i := 2) nd rfl (.inl rfl)) (fun _ _ _ _ _ => pts_nil) (fun _ _ _ _ _ => pe_ix (ix_c P w t.ks hr.units) (pfd K (pv 0)) (pv 2) (fun _ _ => rfl))) pa_nil)))), ?_⟩
    refine ⟨_, rfl, A1, rfl, ⟨_, SqT.of hA⟩, for_tup (K := K) (xs := ys) (fun j σ' H' => (∃ v2, σ' = [some (.ref p), some (.ref A1), v2]) ∧ But c H H' ∧ ∃ xs', CacheAt P w t.ks H' c xs' ∧ xs'.length ≤ xs.length + j ∧ ∀ r ∈ st.take j, (atKey (xs'.map kx) (keyEs r)).isSome = true)
      ⟨⟨_, rfl⟩, fun b o _ e => e, xs, hc, Nat.le_refl _, fun r hr => by simp at hr⟩ (fun j σ' H' _ hh => SqT.of (but_tups hc hh.2.1 _ _ hA)) ?_ ?_⟩
    · rintro j y σ' H' hj ⟨⟨v2, rfl⟩, bt, xs', hc', hl', hin⟩
      obtain ⟨r, hrj, hy⟩ := hall.at hj
      have hjl : j < st.length := (List.getElem?_eq_some_iff.mp hrj).1
      have hy' := hy.mono (but_tups hc bt)
      obtain ⟨dx, hp'⟩ := but_pipe hc bt hpipe
      have rk := rok r (List.mem_of_getElem? hrj)
      refine ⟨_, rfl, _, rfl, p, C, dx, _, _, rfl, hp', TC.cl, TC.na, pfl_c, ?_⟩
      refine rd_cnotin hc' hy' ⟨_, rfl, ?_⟩
      cases hat : atKey (xs'.map kx) (keyEs r) with
      | some q =>
        refine iteF ⟨⟨_, rfl⟩, bt, xs', hc', by omega, fun r' hr' => ?_⟩
        rw [take_succ_at hrj] at hr'
        rcases List.mem_append.mp hr' with h | h
        · exact hin r' h
        · rw [List.mem_singleton] at h; subst h; rw [hat]; rfl
      | none =>
        refine iteT ?_
        refine ⟨_, rfl, p, C, dx, _, _, rfl, hp', TC.cl, TC.nk, pfl_k, _, rfl, kdA, _, r, rfl, but_kd hc bt hkd, hy', rk.kn, rk.sz, fun v' H'' s2 hv => ?_⟩
        refine ⟨_, rfl, p, C, dx, _, _, rfl, s2 _ _ hp', TC.cl, TC.na, pfl_c, _, rfl, ?_⟩
        refine rd_cset (hc'.same s2) (hy'.mono s2.tups) hat (by omega) hv fun H3 a b bt3 hc3 => ?_
        refine ⟨⟨_, rfl⟩, (bt.trans (s2.but c)).trans bt3, _, hc3, by simp; omega, fun r' hr' => ?_⟩
        rw [take_succ_at hrj] at hr'
        rcases List.mem_append.mp hr' with h | h
        · exact at_old (hin r' h)
        · rw [List.mem_singleton] at h; subst h; exact at_new _ _ _ _
    · rintro σ' H' ⟨⟨v2, rfl⟩, bt, xs', hc', hl', hin⟩
      rw [hall.1] at hl'
      rw [hall.1, List.take_length] at hin
      have hA' := but_tups hc bt _ _ hA
      obtain ⟨dx, hp'⟩ := but_pipe hc bt hpipe
      refine ⟨_, rfl, A1, rfl, ⟨_, SqT.of hA'⟩, fun D nD => lc_tup (K := K) (xs := ys) (fun j H'' => Same H' H'' ∧ ∃ acc, H'' D = some (.lst acc) ∧ Al (EnsAt H'') acc ((st.take j).map (agedS (kd t.ks))))
        ⟨same_upd nD, [], upd_same, Al.nil⟩ (fun j H'' _ hh => SqT.of (hh.1 _ _ hA')) ?_ ?_⟩
      · rintro j y H'' hj ⟨s2, acc, hD, hacc⟩
        obtain ⟨r, hrj, hy⟩ := hall.at hj
        have hjl : j < st.length := (List.getElem?_eq_some_iff.mp hrj).1
        refine ⟨rfl, ?_⟩
        refine ⟨_, rfl, p, C, dx, _, _, rfl, s2 _ _ hp', TC.cl, TC.na, pfl_c, _, rfl, ?_⟩
        refine rd_cget (hc'.same s2) ((hy.mono (but_tups hc bt)).mono s2.tups) (hin r (List.mem_of_getElem? hrj)) fun v' hv => ?_
        have hal : acc.length = j := by rw [hacc.1, List.length_map, take_len_at hrj]
        refine ⟨acc, hD, szl (by omega), s2.mut nD, acc ++ [v'], upd_same, ?_⟩
        have tp : Tups H'' (upd H'' D (.lst (acc ++ [v']))) := tups_lst hD
        rw [map_take_succ hrj]
        exact Al.snoc (hacc.mono fun _ _ z => EnsAt.mono tp z) (EnsAt.mono tp hv)
      rintro H2 ⟨s2, acc, hD, hacc⟩
      rw [hall.1, List.take_length] at hacc
      refine ⟨D, acc, rfl, .inl ⟨SqL.of hD, fun l hl => ?_⟩⟩
      have s3 := same_upd (o := HO.tup acc) hl
      refine k _ _ xs' (bt.trans ((s2.trans s3).but c)) (hc'.same (s2.trans s3)) hl' ⟨l, acc, rfl, upd_same, ?_⟩
      exact hacc.mono fun _ _ => EnsAt.mono s3.tups
end
end K3
namespace K3
open PySem PySem.Spec PyProof.Rows L2
/-! ### standings told by their writers -/
def lsAt (ls : List (List W)) (g : Int) : List W := ls[g.toNat]?.getD []
def stOf (k : Kd Str) (t : Int) (ls : List (List W)) : List (List E) := ls.map (lawRow k t)
theorem lsAt_mem {ls : List (List W)} {g : Int} (h0 : 0 ≤ g) (h1 : g < ls.length) : lsAt ls g ∈ ls := by
  obtain ⟨n, rfl⟩ := Int.eq_ofNat_of_zero_le h0
  have hn : n < ls.length := by omega
  unfold lsAt; rw [Int.toNat_natCast, List.getElem?_eq_getElem hn]; exact List.getElem_mem hn
theorem rowAt_st {k : Kd Str} {t : Int} {ls : List (List W)} {g : Int} (h0 : 0 ≤ g) (h1 : g < ls.length) : rowAt (stOf k t ls) g = lawRow k t (lsAt ls g) := by
  obtain ⟨n, rfl⟩ := Int.eq_ofNat_of_zero_le h0
  have hn : n < ls.length := by omega
  unfold rowAt stOf lsAt
  rw [Int.toNat_natCast, List.getElem?_map, List.getElem?_eq_getElem hn]; rfl
theorem topE_row (k : Kd Str) (t : Int) (l : List W) : topE (lawRow k t l) = topOf k t l := by
  unfold topE; rw [row_last]; rfl
structure LsOk (ks : KT) (ls : List (List W)) (B : Int) : Prop where
  ok : ∀ l ∈ ls, WOk ks l
  land : ∀ l ∈ ls, ∀ w ∈ l, land (kd ks) w ≤ B
  sz : ls.length ≤ 4
theorem LsOk.rows {ks : KT} {ls : List (List W)} {B : Int} (h : LsOk ks ls B) (t : Int) : ∀ r ∈ stOf (kd ks) t ls, RowOk ks r := fun r hr => by
  obtain ⟨l, hl, rfl⟩ := List.mem_map.mp hr
  exact (h.ok l hl).row t
def heldL (ti : PI0) (t : Int) (ls : List (List W)) (i : Ins) : Bool :=
  (ti.ho && i.srcs.any fun s => srcHeld (kd ti.ks) t (lsAt ls s)) || (ti.od && !decide (i.goal < 0) && (lsAt ls i.goal).any (ordW (kd ti.ks) t ((kd ti.ks).len i.kind)))
theorem any_congr {α : Type} {l : List α} {p q : α → Bool} (h : ∀ x ∈ l, p x = q x) : l.any p = l.any q := by
  induction l with
  | nil => rfl
  | cons a l ih => rw [List.any_cons, List.any_cons, h a List.mem_cons_self, ih fun x hx => h x (List.mem_cons_of_mem _ hx)]
theorem all_congr {α : Type} {l : List α} {p q : α → Bool} (h : ∀ x ∈ l, p x = q x) : l.all p = l.all q := by
  induction l with
  | nil => rfl
  | cons a l ih => rw [List.all_cons, List.all_cons, h a List.mem_cons_self, ih fun x hx => h x (List.mem_cons_of_mem _ hx)]
theorem held_eq {ti : PI0} {t B : Int} {ls : List (List W)} {i : Ins} (ko : KOk ti.ks) (hl : LsOk ti.ks ls B) (hi : InOk ti.ks ls.length i) : heldS ti (stOf (kd ti.ks) t ls) i = heldL ti t ls i := by
  unfold heldS heldL
  have e1 : (i.srcs.any fun s => !(isWr (kd ti.ks) (topE (rowAt (stOf (kd ti.ks) t ls) s))) && !canRead (kd ti.ks) (topE (rowAt (stOf (kd ti.ks) t ls) s))) = i.srcs.any fun s => srcHeld (kd ti.ks) t (lsAt ls s) := by
    refine any_congr fun s hs => ?_
    obtain ⟨h0, h1⟩ := hi.srcs s hs
    rw [rowAt_st h0 h1, topE_row]
    exact srcHeld_eq (kd ti.ks) t _ ((hl.ok _ (lsAt_mem h0 h1)).nz ko)
  rw [e1]
  by_cases hg : i.goal < 0
  · rw [decide_eq_true hg]; simp
  · obtain ⟨ki, hki⟩ := hi.kn
    have h0 : 0 ≤ i.goal := by omega
    rw [rowAt_st h0 hi.goal.2, ord_eq (kd ti.ks) t _ _ ((hl.ok _ (lsAt_mem h0 hi.goal.2)).nz ko) (by rw [kd_len hki]; have := (ko.len _ _ hki).1; omega)]
theorem held_lt {ti : PI0} {t B : Int} {ls : List (List W)} {i : Ins} (ko : KOk ti.ks) (hl : LsOk ti.ks ls B) (hi : InOk ti.ks ls.length i) (h : heldL ti t ls i = true) : t < B := by
  unfold heldL at h
  rcases Bool.or_eq_true_iff.mp h with h | h
  · obtain ⟨_, h⟩ := Bool.and_eq_true_iff.mp h
    obtain ⟨s, hs, h⟩ := List.any_eq_true.mp h
    obtain ⟨h0, h1⟩ := hi.srcs s hs
    obtain ⟨w, hw, ht⟩ := srcHeld_under (kd ti.ks) h
    have a := not_there (kd ti.ks) ht
    have b := hl.land _ (lsAt_mem h0 h1) w hw
    omega
  · obtain ⟨h, h3⟩ := Bool.and_eq_true_iff.mp h
    obtain ⟨_, h2⟩ := Bool.and_eq_true_iff.mp h
    have hg : ¬ i.goal < 0 := by
      intro z; rw [decide_eq_true z] at h2; cases h2
    obtain ⟨ki, hki⟩ := hi.kn
    have h0 : 0 ≤ i.goal := by omega
    obtain ⟨w, hw, ht⟩ := ordW_under (kd ti.ks) (by rw [kd_len hki]; have := (ko.len _ _ hki).1; omega) h3
    have a := not_there (kd ti.ks) ht
    have b := hl.land _ (lsAt_mem h0 hi.goal.2) w hw
    omega
theorem st_next {ks : KT} {t B : Int} {ls : List (List W)} (ko : KOk ks) (hl : LsOk ks ls B) : (stOf (kd ks) t ls).map (agedS (kd ks)) = stOf (kd ks) (t + 1) ls := by
  unfold stOf
  rw [List.map_map]
  refine List.map_congr_left fun l h => ?_
  exact aged_row (kd ks) t l (hl.ok l h).nd ((hl.ok l h).nz ko)
section
variable {P : Program} {w : World} {K : PySem.W.Frag} {mg : Str → Option Value} {base : Heap} {C : Addr}
/-! ### Pipe.ends_right -/
def endL (k : Kd Str) (u : Int) (l : List W) : Bool := decide (plc (lastL k u l) = newest l)
structure POk (l : List W) : Prop where
  pw : l.Pairwise fun a b => a.place < b.place
  p0 : ∀ w ∈ l, 0 ≤ w.place
def spEnds (C : Addr) (ti : PI0) : Sp := fun vs H Q _ => ∃ (p kdA c : Addr) (v : V) (t B : Int) (ls : List (List W)), vs = [.ref p, v] ∧ PipeAt C H p kdA c ti ∧ KdAt H kdA ti.ks ∧ StAt H v (stOf (kd ti.ks) t ls) ∧ LsOk ti.ks ls B ∧ (∀ l ∈ ls, POk l) ∧
  ∀ H', Same H H' → Q (.bl (ls.all (endL (kd ti.ks) B))) H'
abbrev nEnds : List Str := ["self", "standing", "entries"]
theorem scEnds : FnScope nEnds ["self", "standing"] (defScope sEnds) := ⟨rfl, rfl, rfl, by decide +kernel, rfl, by decide +kernel, by decide +kernel⟩
theorem dp_pair' {K : PySem.W.Frag} {H : Hp} {v : V} {e : E} (h : EnAt H v e) : Dp K H v (.tuple [.str e.1, .int e.2]) := by
  obtain ⟨a, rfl, h⟩ := h
  exact dp_pair h
theorem ok_ends {ti : PI0} {f fA : Addr} {fd fdA : FuncData} (F : Fun K "ends_right" "Pipe.ends_right" sEnds f fd) (T : Txt K mg) (TC : TxtC K mg C) (ko : KOk ti.ks) (DE : Dfn P w K mg base "ended" 3 ["kinds", "entries"] (spEnded ti.ks) fA fdA) : FnOk P w K mg base CX0 4 f fd ["self", "standing"] (spEnds C ti) := by
  refine F.ok scEnds (fun vs H Q E h => ?_) (fun cdv A outer s H vs Q E hr h => ?_)
  · obtain ⟨p, kdA, c, v, t, B, ls, rfl, _⟩ := h
    rfl
  · obtain ⟨p, kdA, c, v, t, B, ls, rfl, ⟨dx, hp⟩, hkd, ⟨A1, ys, rfl, hA, hall⟩, lok, pok, k⟩ := h
    have nd := scEnds.nd
    refine ⟨_, pss_one (ps_ret (pe_callB (cr_all rfl) (by rfl) T.all (by decide +kernel) (pa_cons
        (pe_lc (own := [("entries", 2)]) (g := gName 2) (by rfl) nd (pi_tup (pv 1)) (blkOk_by (N := nEnds) (sc := defScope sEnds) (by decide +kernel))
          (fun _ _ _ _ _ => pg_name (i := 2) nd rfl (.inl rfl)) (fun _ _ _ _ _ => pts_nil)
          (fun _ _ _ _ _ => pe_cmpR (eqDK K hr.units) (pe_ix (ixT K) (pcl DE hr (pa_cons (pfd K (pv 0)) (pa_cons (pv 2) pa_nil))) (pe_un un_neg pe_int) (fun _ _ => rfl)) (ptup (pa_cons (pgl T.W) (pa_cons (pgl T.P) pa_nil))) (nomark _))) pa_nil))), ?_⟩
    have hyl : ys.length = ls.length := by rw [hall.1]; unfold stOf; rw [List.length_map]
    refine ⟨_, rfl, A1, rfl, ⟨_, SqT.of hA⟩, fun D nD => lc_tup (K := K) (xs := ys) (fun j H'' => Same H H'' ∧ H'' D = some (.lst ((ls.take j).map fun l => V.bl (endL (kd ti.ks) B l))))
      ⟨same_upd nD, upd_same⟩ (fun j H'' _ hh => SqT.of (hh.1 _ _ hA)) ?_ ?_⟩
    · rintro j y H'' hj ⟨s2, hD⟩
      obtain ⟨r, hrj, hy⟩ := hall.at hj
      unfold stOf at hrj
      rw [List.getElem?_map] at hrj
      obtain ⟨l, hlj, rfl⟩ := Option.map_eq_some_iff.mp hrj
      have hlm := List.mem_of_getElem? hlj
      have hjl : j < ls.length := (List.getElem?_eq_some_iff.mp hlj).1
      refine ⟨rfl, ?_⟩
      refine ⟨_, rfl, p, C, dx, _, _, rfl, s2 _ _ hp, TC.cl, TC.nk, pfl_k, _, rfl, kdA, _, t, B, l, rfl, hkd.same s2, hy.mono s2.tups, lok.ok l hlm, lok.land l hlm, fun v' H3 t' s3 he hth => ?_⟩
      obtain ⟨b, zs, rfl, hb, hal⟩ := he
      obtain ⟨x, htop, hx⟩ := row_top hal ((lok.ok l hlm).row t').ne
      refine ⟨_, rfl, b, _, _, _, rfl, rfl, SqT.of hb, htop, ?_⟩
      refine rd_t2 fun p4 H4 s4 h4 => ?_
      have hkn := ((lok.ok l hlm).row t').kn _ (topE_mem ((lok.ok l hlm).row t').ne)
      have hok : PyData.strOk (topE (lawRow (kd ti.ks) t' l)).1 = true := by
        rcases hkn with h | ⟨i, hi⟩
        · rw [h]; decide +kernel
        · exact ko.str _ _ hi
      refine ⟨_, _, dp_pair' (hx.mono s4.tups), dp_pair h4, shaped_pair hok, shaped_pair (by decide +kernel), _, (s3.trans s4) _ _ hD, ?_, (s2.trans (s3.trans s4)).mut nD, ?_⟩
      · rw [List.length_map, List.length_take]
        have := lok.sz
        exact szl (by omega)
      · rw [upd_same, map_take_succ hlj, eqv_pair, topE_row]
        have : decide (((topOf (kd ti.ks) t' l).1, (topOf (kd ti.ks) t' l).2) = (("" : Str), (0 : Int))) = endL (kd ti.ks) B l :=
          end_eq (kd ti.ks) t' B l hth (fun w hw => decide_eq_true (lok.land l hlm w hw)) (pok l hlm).pw (pok l hlm).p0
        rw [this]
    rintro H2 ⟨s2, hD⟩
    rw [hyl, List.take_length] at hD
    refine ⟨D, ls.map (endL (kd ti.ks) B), rfl, ?_, ?_⟩
    · rw [List.map_map]; exact SqL.of hD
    rw [List.all_map]
    exact k H2 s2
end
end K3
namespace K3
open PySem PySem.Spec PyProof.Rows L2
/-- the writers behind the issue -/
def putL (ls : List (List W)) (i : Ins) (w : W) : List (List W) :=
  if i.goal < 0 then ls else ls.take i.goal.toNat ++ [lsAt ls i.goal ++ [w]] ++ ls.drop (i.goal.toNat + 1)
theorem put_st {ks : KT} {t : Int} {ls : List (List W)} {i : Ins} {w : W} (hk : w.kind = i.kind) (ht : w.tick = t) (hl : 1 ≤ (kd ks).len i.kind) (hg : i.goal < ls.length) :
    putS (stOf (kd ks) t ls) i = stOf (kd ks) t (putL ls i w) := by
  unfold putS putL
  by_cases h : i.goal < 0
  · rw [if_pos h, if_pos h]
  · rw [if_neg h, if_neg h, rowAt_st (by omega) hg]
    have := put_row (kd ks) t (lsAt ls i.goal) w ht (by rw [hk]; exact hl)
    rw [hk] at this
    rw [← this]
    unfold stOf
    simp only [List.map_append, List.map_take, List.map_drop, List.map_cons, List.map_nil]
section
variable {P : Program} {w : World} {K : PySem.W.Frag} {mg : Str → Option Value} {base : Heap} {C : Addr}
/-! ### Pipe.follow -/
def readsL (k : Kd Str) (t : Int) (ls : List (List W)) (i : Ins) : Bool := i.srcs.all fun s => canRead k (topOf k t (lsAt ls s))
def spFollow (P : Program) (w : World) (C : Addr) (ti : PI0) : Sp := fun vs H Q _ => ∃ (p kdA c : Addr) (v vi : V) (t B : Int) (ls : List (List W)) (i : Ins) (xs : List Kp), vs = [.ref p, v, vi] ∧ PipeAt C H p kdA c ti ∧ KdAt H kdA ti.ks ∧ CacheAt P w ti.ks H c xs ∧
  StAt H v (stOf (kd ti.ks) t ls) ∧ InAt H vi i ∧ LsOk ti.ks ls B ∧ InOk ti.ks ls.length i ∧ B - t ≤ 20 ∧ xs.length ≤ 80000 ∧
  ∀ (n : Nat) (r : Addr) (v' : V) H' xs', (∀ j : Nat, j < n → heldL ti (t + j) ls i = true) → heldL ti (t + n) ls i = false → But c H H' → CacheAt P w ti.ks H' c xs' → xs'.length ≤ xs.length + 100 →
    H' r = some (.tup [.int n, .bl (readsL (kd ti.ks) (t + n) ls i), v']) → StAt H' v' ((putS (stOf (kd ti.ks) (t + n) ls) i).map (agedS (kd ti.ks))) → Q (.ref r) H'
abbrev nFollow : List Str := ["self", "standing", "instruction", "held", "reads", "source"]
theorem scFollow : FnScope nFollow ["self", "standing", "instruction"] (defScope sFollow) := ⟨rfl, rfl, rfl, by decide +kernel, rfl, by decide +kernel, by decide +kernel⟩
theorem putS_rows {ks : KT} {st : List (List E)} {i : Ins} (h : ∀ r ∈ st, RowOk ks r) (hs : ∀ r ∈ st, r.length ≤ 900) (hk : Kn ks i.kind) (hg : i.goal < st.length) : ∀ r ∈ putS st i, RowOk ks r := by
  intro r hr
  unfold putS at hr
  by_cases hg0 : i.goal < 0
  · rw [if_pos hg0] at hr; exact h r hr
  · rw [if_neg hg0] at hr
    rcases List.mem_append.mp hr with hr | hr
    · rcases List.mem_append.mp hr with hr | hr
      · exact h r (List.mem_of_mem_take hr)
      · rw [List.mem_singleton] at hr
        subst hr
        have hm := rowAt_mem (st := st) (g := i.goal) (by omega) hg
        refine ⟨by simp, fun e he => ?_, ?_⟩
        · rcases List.mem_append.mp he with he | he
          · exact (h _ hm).kn e he
          · rw [List.mem_singleton] at he; subst he; exact .inr hk
        · have := hs _ hm
          rw [List.length_append, List.length_cons, List.length_nil]; omega
    · exact h r (List.mem_of_mem_drop hr)
theorem putS_len {st : List (List E)} {i : Ins} (hg : i.goal < st.length) : (putS st i).length = st.length := by
  unfold putS
  split
  · rfl
  · simp only [List.length_append, List.length_take, List.length_cons, List.length_nil, List.length_drop]; omega
theorem ok_follow {ti : PI0} {f fH fL fP fC : Addr} {fd fdH fdL fdP fdC : FuncData} (F : Fun K "follow" "Pipe.follow" sFollow f fd) (T : Txt K mg) (TC : TxtC K mg C) (ko : KOk ti.ks)
    (DH : Dfn P w K mg base "is_held" 2 ["pipe", "standing", "instruction"] (spHeld C ti) fH fdH) (DL : Dfm P w K mg base C "later" 3 ["self", "standing"] (spLater P w C ti) fL fdL)
    (DP : Dfn P w K mg base "put_under_way" 1 ["standing", "instruction", "more"] (spPut ti.ks) fP fdP) (DC : Dfn P w K mg base "can_be_read" 1 ["kinds", "entry"] (spCan ti.ks) fC fdC) :
    FnOk P w K mg base CX0 4 f fd ["self", "standing", "instruction"] (spFollow P w C ti) := by
  refine F.ok scFollow (fun vs H Q E h => ?_) (fun cdv A outer s H vs Q E hr h => ?_)
  · obtain ⟨p, kdA, c, v, vi, t, B, ls, i, xs, rfl, _⟩ := h
    rfl
  · obtain ⟨p, kdA, c, v, vi, t, B, ls, i, xs, rfl, hpipe, hkd, hc, hst, hin, lok, iok, hB, hxs, k⟩ := h
    have nd := scFollow.nd
    have hr1 : Room 1 _ := hr.mono (by decide)
    have hr2 : Room 2 _ := hr.mono (by decide)
    refine ⟨_, pss_cons (ps_set (i := 3) nd rfl (.inl rfl) pe_int)
      (pss_cons (ps_while PassesOwn.never (pt_val (pcl DH hr2 (pa_cons (pv 0) (pa_cons (pv 1) (pa_cons (pv 2) pa_nil)))))
        (pss_cons (ps_set (i := 1) nd rfl (.inr rfl) (pe_meth (pv 0) TC.cl DL.meth DL.ok hr DL.b .nil pass0 (pa_cons (pv 1) pa_nil)))
        (pss_one (ps_aug (i := 3) nd rfl (.inl rfl) pe_int ip_add))))
      (pss_cons (ps_set (i := 4) nd rfl (.inl rfl) (pe_callB (cr_all rfl) (by rfl) T.all (by decide +kernel) (pa_cons
        (pe_lc (own := [("source", 5)]) (g := gName 5) (by rfl) nd (pi_tup (pe_ix (ixT K) (pv 2) pe_int (fun _ _ => rfl))) (blkOk_by (N := nFollow) (sc := defScope sFollow) (by decide +kernel))
          (fun _ _ _ _ _ => pg_name (i := 5) nd rfl (.inl rfl)) (fun _ _ _ _ _ => pts_nil)
          (fun _ _ _ _ _ => pcl DC hr1 (pa_cons (pfd K (pv 0)) (pa_cons (pe_ix (ixT K) (pe_ix (ixT K) (pv 1) (pv 5) (fun _ _ => rfl)) (pe_un un_neg pe_int) (fun _ _ => rfl)) pa_nil)))) pa_nil)))
      (pss_one (ps_ret (ptup (pa_cons (pv 3) (pa_cons (pv 4) (pa_cons
        (pe_meth (pv 0) TC.cl DL.meth DL.ok hr DL.b .nil pass0 (pa_cons (pcl DP hr1 (pa_cons (pv 1) (pa_cons (pv 2) (pa_cons (ptup pa_nil) pa_nil)))) pa_nil)) pa_nil)))))))), ?_⟩
    let σ0 : V → Int → Option V → Option V → L2.St := fun v' n v4 v5 => [some (.ref p), some v', some vi, some (.int n), v4, v5]
    have stl : ∀ t', (stOf (kd ti.ks) t' ls).length = ls.length := fun t' => by unfold stOf; rw [List.length_map]
    have nometh : (pfl ti.regs kdA ti.ho ti.od c).lookup ("later" : Str) = none := pfl_m (by decide +kernel) (by decide +kernel) (by decide +kernel) (by decide +kernel) (by decide +kernel)
    refine ⟨fun m σ' H' => ∃ (n : Nat) (v' : V) (xs' : List Kp), m = (B - (t + n)).toNat ∧ σ' = σ0 v' n none none ∧ But c H H' ∧ CacheAt P w ti.ks H' c xs' ∧ xs'.length ≤ xs.length + 4 * n ∧ StAt H' v' (stOf (kd ti.ks) (t + n) ls) ∧ (∀ j : Nat, j < n → heldL ti (t + j) ls i = true) ∧ (n : Int) ≤ max 0 (B - t),
      ⟨_, 0, v, xs, rfl, rfl, fun b o _ e => e, hc, by omega, by simpa using hst, fun j hj => by omega, by omega⟩, ?_⟩
    rintro m σ' H' ⟨n, v', xs', rfl, rfl, bt, hc', hl', hst', hj, hn⟩
    have tp := but_tups hc bt
    have hin' := hin.mono tp
    have hkd' := but_kd hc bt hkd
    obtain ⟨dx, hp'⟩ := but_pipe hc bt hpipe
    have rows := lok.rows (t + n)
    have lsz := lok.sz
    have iok' : InOk ti.ks (stOf (kd ti.ks) (t + n) ls).length i := by rw [stl]; exact iok
    refine ⟨_, rfl, _, rfl, _, rfl, p, kdA, c, _, _, _, i, rfl, ⟨dx, hp'⟩, hkd', hst', hin', iok', rows, _, rfl, ?_⟩
    rw [held_eq ko lok iok]
    cases hh : heldL ti (t + n) ls i with
    | true =>
      have hlt := held_lt ko lok iok hh
      refine iteT ⟨fun σ'' H'' => ∃ (v'' : V) (xs'' : List Kp), σ'' = σ0 v'' ((n + 1 : Nat) : Int) none none ∧ But c H H'' ∧ CacheAt P w ti.ks H'' c xs'' ∧ xs''.length ≤ xs.length + 4 * (n + 1) ∧ StAt H'' v'' (stOf (kd ti.ks) (t + ((n + 1 : Nat) : Int)) ls), fun σ'' H'' hN => ?_, ?_⟩
      · obtain ⟨v'', xs'', rfl, b2, c2, l2, s2⟩ := hN
        refine ⟨(B - (t + ((n + 1 : Nat) : Int))).toNat, by omega, n + 1, v'', xs'', rfl, rfl, b2, c2, l2, s2, fun j hj' => ?_, by omega⟩
        by_cases e : j = n
        · subst e; exact hh
        · exact hj j (by omega)
      · refine ⟨_, rfl, p, dx, _, rfl, hp', nometh, _, rfl, p, kdA, c, _, _, xs', rfl, ⟨dx, hp'⟩, hkd', hc', hst', rows, by rw [stl]; omega, by rw [stl]; omega, fun v'' H'' xs'' b2 c2 l2 s2 => ?_⟩
        refine ⟨_, rfl, _, _, rfl, rfl, ?_⟩
        rw [st_next ko lok, Int.add_assoc] at s2
        rw [stl] at l2
        exact ⟨v'', xs'', rfl, bt.trans b2, c2, by omega, s2⟩
    | false =>
      refine iteF ?_
      obtain ⟨a, b, rfl, ha, hb⟩ := id hin'
      obtain ⟨A1, ys, rfl, hA, hall⟩ := id hst'
      refine ⟨_, rfl, a, _, 2, _, rfl, rfl, SqT.of ha, rfl, b, rfl, ⟨_, SqT.of hb⟩, fun D nD => lc_tup (K := K) (xs := i.srcs.map V.int) (fun j H'' => Same H' H'' ∧ H'' D = some (.lst ((i.srcs.take j).map fun s => V.bl (canRead (kd ti.ks) (topOf (kd ti.ks) (t + n) (lsAt ls s))))))
        ⟨same_upd nD, upd_same⟩ (fun j H'' _ hh => SqT.of (hh.1 _ _ hb)) ?_ ?_⟩
      · rintro j y H'' hj2 ⟨s2, hD⟩
        obtain ⟨s0, hs0, rfl⟩ := map_at hj2
        obtain ⟨g0, g1⟩ := iok.srcs s0 (List.mem_of_getElem? hs0)
        obtain ⟨b', zs, hat, hB', hal⟩ := row_of hall g0 (by rw [stl]; exact g1)
        rw [rowAt_st g0 g1] at hal
        have rrow := (lok.ok _ (lsAt_mem g0 g1)).row (t + n)
        obtain ⟨x, htop, hx⟩ := row_top hal rrow.ne
        have hkn := rrow.kn _ (topE_mem rrow.ne)
        refine ⟨rfl, ?_⟩
        refine ⟨_, rfl, p, C, dx, _, _, rfl, s2 _ _ hp', TC.cl, TC.nk, pfl_k, _, rfl, _, rfl, A1, _, _, _, rfl, rfl, SqT.of (s2 _ _ hA), hat, _, rfl, b', _, _, _, rfl, rfl, SqT.of (s2 _ _ hB'), htop, ?_⟩
        refine ⟨kdA, _, _, rfl, hkd'.same s2, hx.mono s2.tups, hkn, _, hD, ?_, s2.mut nD, ?_⟩
        · rw [List.length_map, List.length_take]
          have := iok.len
          exact szl (by omega)
        · rw [upd_same, map_take_succ hs0, topE_row]
      · rintro H2 ⟨s2, hD⟩
        rw [List.length_map, List.take_length] at hD
        refine ⟨D, i.srcs.map (fun s => canRead (kd ti.ks) (topOf (kd ti.ks) (t + n) (lsAt ls s))), rfl, ?_, ?_⟩
        · rw [List.map_map]; exact SqL.of hD
        rw [List.all_map]
        refine ⟨_, rfl, _, rfl, _, rfl, p, dx, _, rfl, s2 _ _ hp', nometh, _, rfl, _, rfl, ?_⟩
        refine rd_t0 fun p3 H3 s3 h3 => ?_
        have s23 := s2.trans s3
        refine ⟨_, _, _, i, p3, rfl, hst'.mono s23.tups, hin'.mono s23.tups, h3, iok', by rw [stl]; omega, rows, fun v4 H4 s4 st4 => ?_⟩
        have s24 := s23.trans s4
        have pl : (putS (stOf (kd ti.ks) (t + n) ls) i).length = ls.length := by rw [putS_len iok'.goal.2, stl]
        refine ⟨p, kdA, c, v4, _, xs', rfl, ⟨dx, s24 _ _ hp'⟩, hkd'.same s24, hc'.same s24, st4, putS_rows rows (fun r hr => ?_) iok.kn iok'.goal.2, by rw [pl]; omega, by rw [pl]; omega, fun v5 H5 xs5 b5 c5 l5 s5 => ?_⟩
        · obtain ⟨l, hl, rfl⟩ := List.mem_map.mp hr
          have h1 := lawRow_len (kd ti.ks) (t + n) l
          have h2 := (lok.ok l hl).sz
          omega
        refine rd_t3 fun p6 H6 s6 h6 => ?_
        rw [pl] at l5
        refine k n p6 v5 H6 xs5 hj hh (((bt.trans (s24.but c)).trans b5).trans (s6.but c)) (c5.same s6) (by omega) ?_ (s5.mono s6.tups)
        rw [h6]; rfl
end
end K3
namespace K3
open PySem PySem.Spec PyProof.Rows L2
/-- kinds as the law draws them -/
structure KiOk (i : KI) : Prop where
  s : 0 ≤ i.srcs ∧ i.srcs ≤ 2
  l : 1 ≤ i.len ∧ i.len ≤ 4
  w : ∀ x, i.way = some x → 1 ≤ x ∧ x < i.len
structure KtOk (ks : KT) : Prop where
  names : ks.map (·.1) = [("add" : Str)] ∨ ks.map (·.1) = [("add" : Str), ("put" : Str)]
  ok : ∀ q ∈ ks, KiOk q.2
theorem KvOk.len {H : Hp} : ∀ {kvs : List (Key × V)} {ks : KT}, KvOk H kvs ks → kvs.length = ks.length
  | [], [], _ => rfl
  | _ :: _, _ :: _, ⟨_, h⟩ => by rw [List.length_cons, List.length_cons, KvOk.len h]
  | [], _ :: _, h => h.elim
  | _ :: _, [], h => h.elim
theorem KvOk.at {H : Hp} : ∀ {kvs : List (Key × V)} {ks : KT} {i : Nat} {p : Key × V}, KvOk H kvs ks → kvs[i]? = some p → ∃ q, ks[i]? = some q ∧ kiAt H p q
  | _ :: _, _ :: _, 0, _, ⟨h, _⟩, e => by simp at e; subst e; exact ⟨_, rfl, h⟩
  | _ :: _, _ :: _, i + 1, _, ⟨_, h⟩, e => by
    obtain ⟨q, h1, h2⟩ := KvOk.at (i := i) h (by simpa using e)
    exact ⟨q, by simpa using h1, h2⟩
  | [], [], _, _, _, e => by simp at e
  | [], _ :: _, _, _, h, _ => h.elim
  | _ :: _, [], _, _, h, _ => h.elim
theorem KvOk.keys {H : Hp} : ∀ {kvs : List (Key × V)} {ks : KT}, KvOk H kvs ks → kvs.map (·.1) = (ks.map (·.1)).map Sum.inr
  | [], [], _ => rfl
  | _ :: _, _ :: _, ⟨⟨h1, _⟩, h⟩ => by
    rw [List.map_cons, List.map_cons, List.map_cons, KvOk.keys h, h1]
  | [], _ :: _, h => h.elim
  | _ :: _, [], h => h.elim
theorem names_ne : ("add" : Str) ≠ ("put" : Str) := by decide +kernel
theorem KtOk.nodup {ks : KT} (h : KtOk ks) : (ks.map (·.1)).Nodup := by
  rcases h.names with e | e
  · rw [e]; exact List.nodup_cons.mpr ⟨by simp, List.nodup_nil⟩
  · rw [e]
    exact List.nodup_cons.mpr ⟨fun z => names_ne (List.mem_singleton.mp z), List.nodup_cons.mpr ⟨by simp, List.nodup_nil⟩⟩
theorem KtOk.mem {ks : KT} (h : KtOk ks) {q : Str × KI} (hq : q ∈ ks) : q.1 = "add" ∨ q.1 = "put" := by
  have hm : q.1 ∈ ks.map (·.1) := List.mem_map_of_mem hq
  rcases h.names with e | e
  · rw [e] at hm; exact .inl (List.mem_singleton.mp hm)
  · rw [e] at hm
    rcases List.mem_cons.mp hm with h1 | h1
    · exact .inl h1
    · exact .inr (List.mem_singleton.mp h1)
theorem KtOk.len {ks : KT} (h : KtOk ks) : 1 ≤ ks.length ∧ ks.length ≤ 2 := by
  rw [← List.length_map (as := ks) (·.1)]
  rcases h.names with e | e <;> rw [e] <;> decide
theorem find_mem {ks : KT} {x : Str} {i : KI} (h : find ks x = some i) : (x, i) ∈ ks := by
  unfold find at h
  obtain ⟨q, h1, h2⟩ := Option.map_eq_some_iff.mp h
  have h3 : decide (q.1 = x) = true := List.find?_some (p := fun p : Str × KI => decide (p.1 = x)) h1
  have h4 := List.mem_of_find?_eq_some h1
  have h5 := of_decide_eq_true h3
  have : q = (x, i) := Prod.ext h5 h2
  rw [← this]; exact h4
theorem KtOk.kok {ks : KT} (h : KtOk ks) : KOk ks where
  no := by
    cases e : find ks "" with
    | none => rfl
    | some i =>
      rcases h.mem (find_mem e) with h1 | h1
      · exact absurd h1 (by show ¬ (("" : Str) = "add"); decide +kernel)
      · exact absurd h1 (by show ¬ (("" : Str) = "put"); decide +kernel)
  len := fun x i e => (h.ok _ (find_mem e)).l
  str := fun x i e => by
    rcases h.mem (find_mem e) with h1 | h1
    · have h1' : x = "add" := h1
      rw [h1']; decide +kernel
    · have h1' : x = "put" := h1
      rw [h1']; decide +kernel
section
variable {P : Program} {w : World} {K : PySem.W.Frag} {mg : Str → Option Value} {base : Heap} {C : Addr}
/-! ### is_kind_word -/
def spIsKW : Sp := fun vs H Q _ => ∃ x : Str, vs = [.str x] ∧ (x = "add" ∨ x = "put") ∧ ∀ H', Same H H' → Q (.bl true) H'
abbrev nIsKW : List Str := ["thing", "sign"]
theorem scIsKW : FnScope nIsKW ["thing"] (defScope sIsKW) := ⟨rfl, rfl, rfl, by decide +kernel, rfl, by decide +kernel, by decide +kernel⟩
abbrev abc : Str := "abcdefghijklmnopqrstuvwxyz"
theorem kw_facts {x : Str} (h : x = "add" ∨ x = "put") : x.length = 3 ∧ (x.cps.toList.all fun c => decide (c ∈ abc.cps.toList)) = true := by
  rcases h with rfl | rfl <;> decide +kernel
theorem ok_isKW {f : Addr} {fd : FuncData} (F : Fun K "is_word" "is_word" sIsKW f fd) (T : Txt K mg) : FnOk P w K mg base CX0 1 f fd ["thing"] spIsKW := by
  refine F.ok scIsKW (fun vs H Q E h => ?_) (fun cdv A outer s H vs Q E hr h => ?_)
  · obtain ⟨x, rfl, _⟩ := h
    rfl
  · obtain ⟨x, rfl, hx, k⟩ := h
    have nd := scIsKW.nd
    obtain ⟨hlen, hall⟩ := kw_facts hx
    refine ⟨_, pss_one (ps_ret (pe_and (pe_callB call_isi (by rfl) T.isinst (by decide +kernel) (pa_cons (pv 0) (pa_cons (pe_bltn (v := .ty "str") (by rfl) T.str (by decide +kernel) rfl) pa_nil)))
      (pe_and (pe_chain op_le op_le pe_int (pe_callB call_len_str (by rfl) T.len (by decide +kernel) (pa_cons (pv 0) pa_nil)) (pgl T.m5))
      (pe_one (pe_callB (cr_all rfl) (by rfl) T.all (by decide +kernel) (pa_cons
        (pe_lc (own := [("sign", 1)]) (g := gName 1) (by rfl) nd (pi_str (pv 0)) (blkOk_by (N := nIsKW) (sc := defScope sIsKW) (by decide +kernel))
          (fun _ _ _ _ _ => pg_name (i := 1) nd rfl (.inl rfl)) (fun _ _ _ _ _ => pts_nil)
          (fun _ _ _ _ _ => pe_cmpR op_in_sign (pv 1) (pgl T.L) rfl)) pa_nil)))))), ?_⟩
    refine ⟨_, rfl, .str x, .ty "str", .type "str", .type "str", true, rfl, .ty "str", .base (.str x), kit_ty (by decide +kernel), true, rfl, ?_⟩
    refine iteT ?_
    refine ⟨_, rfl, x, rfl, sz (by omega), _, _, rfl, rfl, _, rfl, ?_⟩
    rw [hlen]
    refine iteT ⟨_, _, rfl, rfl, _, rfl, ?_⟩
    refine iteT ?_
    have hsz : x.cps.size = 3 := hlen
    refine ⟨_, rfl, x, rfl, fun D nD => lc_it (walk_str (z := x)) (fun j H' => Same H H' ∧ H' D = some (.lst ((x.cps.toList.take j).map fun c => V.bl (decide (c ∈ abc.cps.toList)))))
      ⟨same_upd nD, upd_same⟩ (fun j H' _ hh => True.intro) ?_ ?_⟩
    · rintro j y H' H'' hj ⟨s2, hD⟩ ⟨rfl, c, hc, rfl⟩
      have hc' : x.cps.toList[j]? = some c := by rw [Array.getElem?_toList]; exact hc
      refine ⟨rfl, ?_⟩
      refine ⟨_, rfl, c, abc, rfl, rfl, _, hD, ?_, s2.mut nD, ?_⟩
      · rw [List.length_map, List.length_take]
        exact szl (by omega)
      · rw [upd_same, map_take_succ hc']
    rintro H2 ⟨s2, hD⟩
    refine ⟨D, x.cps.toList.map (fun c => decide (c ∈ abc.cps.toList)), rfl, ?_, ?_⟩
    · rw [List.map_map]
      have : x.cps.toList.take x.cps.size = x.cps.toList := by rw [← Array.length_toList]; exact List.take_length
      rw [this] at hD
      exact SqL.of hD
    rw [List.all_map]
    have : (x.cps.toList.all (id ∘ fun c => decide (c ∈ abc.cps.toList))) = true := hall
    rw [this]
    exact k H2 s2
/-! ### is_kind -/
def spIsK : Sp := fun vs H Q _ => ∃ (t : Addr) (i : KI), vs = [.ref t] ∧ H t = some (.tup [.int i.srcs, .int i.len, oV i.way]) ∧ KiOk i ∧ Q (.bl true) H
theorem scIsK : FnScope ["thing", "sources", "length", "way"] ["thing"] (defScope sIsK) := ⟨rfl, rfl, rfl, by decide +kernel, rfl, by decide +kernel, by decide +kernel⟩
theorem ok_isK {f fN : Addr} {fd fdN : FuncData} (F : Fun K "is_kind" "is_kind" sIsK f fd) (T : Txt K mg) (DN : Dfn P w K mg base "is_number" 1 ["thing"] spNum fN fdN) : FnOk P w K mg base CX0 2 f fd ["thing"] spIsK := by
  refine F.ok scIsK (fun vs H Q E h => ?_) (fun cdv A outer s H vs Q E hr h => ?_)
  · obtain ⟨x, i, rfl, _⟩ := h
    rfl
  · obtain ⟨t, i, rfl, ht, iok, k⟩ := h
    have nd := scIsK.nd
    refine ⟨_, pss_cons (ps_if (PW.pt (pw_or (pt_not (pt_val (pe_callB call_isi (by rfl) T.isinst (by decide +kernel) (pa_cons (pv 0) (pa_cons (pe_bltn (v := .ty "tuple") (by rfl) T.tuple (by decide +kernel) rfl) pa_nil)))))
        (pw_or1 (pt_cmpR op_ne (pe_callB call_len_seq (by rfl) T.len (by decide +kernel) (pa_cons (pv 0) pa_nil)) pe_int (nomark _))))) (pss_one (ps_ret pe_bl)) pss_nil)
      (pss_cons (ps_asg (pv 0) (pg_tup (by rfl) (pgs_cons (pg_name (i := 1) nd rfl (.inl rfl)) (pgs_cons (pg_name (i := 2) nd rfl (.inl rfl)) (pgs_cons (pg_name (i := 3) nd rfl (.inl rfl)) pgs_nil)))))
      (pss_cons (ps_if (PW.pt (pw_or (pt_not (pt_val (pcl DN hr (pa_cons (pv 1) pa_nil)))) (pw_or1 (pt_not (pt_chain op_le op_le pe_int (pv 1) (pgl T.m3)))))) (pss_one (ps_ret pe_bl)) pss_nil)
      (pss_cons (ps_if (PW.pt (pw_or (pt_not (pt_val (pcl DN hr (pa_cons (pv 2) pa_nil)))) (pw_or1 (pt_not (pt_chain op_le op_le pe_int (pv 2) (pgl T.m4)))))) (pss_one (ps_ret pe_bl)) pss_nil)
      (pss_one (ps_ret (pe_or (pe_cmp (pc_isN (pv 3)) rfl) (pe_one (pe_and (pcl DN hr (pa_cons (pv 3) pa_nil)) (pe_one (pe_chain op_le op_lt pe_int (pv 3) (pv 2))))))))))), ?_⟩
    refine ⟨_, rfl, .ref t, .ty "tuple", .type "tuple", .type "tuple", true, rfl, .ty "tuple", .base (.tup ht), kit_ty (by decide +kernel), true, rfl, ?_⟩
    refine iteF ?_
    refine ⟨_, rfl, t, _, rfl, .inr (SqT.of ht), rfl, _, rfl, ?_⟩
    refine iteF ?_
    refine ⟨_, rfl, t, _, rfl, SqT.of ht, rfl, _, _, rfl, _, _, rfl, _, _, rfl, rfl, ?_⟩
    refine ⟨_, rfl, i.srcs, rfl, true, rfl, ?_⟩
    refine iteF ?_
    refine ⟨_, rfl, _, _, rfl, rfl, _, rfl, ?_⟩
    rw [decide_eq_true iok.s.1]
    refine iteT ⟨_, _, rfl, rfl, _, rfl, ?_⟩
    rw [decide_eq_true iok.s.2]
    refine iteF ?_
    refine ⟨_, rfl, i.len, rfl, true, rfl, ?_⟩
    refine iteF ?_
    refine ⟨_, rfl, _, _, rfl, rfl, _, rfl, ?_⟩
    rw [decide_eq_true iok.l.1]
    refine iteT ⟨_, _, rfl, rfl, _, rfl, ?_⟩
    rw [decide_eq_true iok.l.2]
    refine iteF ?_
    refine ⟨_, rfl, _, rfl, ?_⟩
    cases hw : i.way with
    | none => exact iteT k
    | some x =>
      refine iteF ?_
      refine ⟨_, rfl, x, rfl, true, rfl, ?_⟩
      refine iteT ⟨_, rfl, _, _, rfl, rfl, _, rfl, ?_⟩
      rw [decide_eq_true (iok.w x hw).1]
      refine iteT ⟨_, rfl, _, _, rfl, rfl, ?_⟩
      show Q (.bl (decide (x < i.len))) H
      rw [decide_eq_true (iok.w x hw).2]
      exact k
end
end K3
namespace K3
open PySem PySem.Spec PyProof.Rows L2
theorem valV_at {kvs : List (Key × V)} : ∀ {i : Nat} {k : Key} {v : V}, (kvs.map (·.1)).Nodup → kvs[i]? = some (k, v) → valV kvs k = some v := by
  induction kvs with
  | nil => intro i k v _ h; simp at h
  | cons p kvs ih =>
    intro i k v nd h
    rw [List.map_cons, List.nodup_cons] at nd
    cases i with
    | zero => simp at h; subst h; exact valV_pos rfl
    | succ i =>
      have h' : kvs[i]? = some (k, v) := by simpa using h
      have hm : k ∈ kvs.map (·.1) := List.mem_map.mpr ⟨(k, v), List.mem_of_getElem? h', rfl⟩
      rw [valV_neg (fun e => nd.1 (by rw [e]; exact hm))]
      exact ih nd.2 h'
theorem valV_take {kvs : List (Key × V)} : ∀ {i : Nat} {k : Key} {v : V}, (kvs.map (·.1)).Nodup → kvs[i]? = some (k, v) → valV (kvs.take i) k = none := by
  induction kvs with
  | nil => intro i k v _ h; simp at h
  | cons p kvs ih =>
    intro i k v nd h
    rw [List.map_cons, List.nodup_cons] at nd
    cases i with
    | zero => rfl
    | succ i =>
      have h' : kvs[i]? = some (k, v) := by simpa using h
      have hm : k ∈ kvs.map (·.1) := List.mem_map.mpr ⟨(k, v), List.mem_of_getElem? h', rfl⟩
      rw [List.take_succ_cons, valV_neg (fun e => nd.1 (by rw [e]; exact hm))]
      exact ih nd.2 h'
theorem inr_nodup {xs : List Str} (h : xs.Nodup) : (xs.map (Sum.inr : Str → Key)).Nodup := by
  induction xs with
  | nil => exact List.nodup_nil
  | cons x xs ih =>
    rw [List.nodup_cons] at h
    rw [List.map_cons, List.nodup_cons]
    refine ⟨fun z => ?_, ih h.2⟩
    obtain ⟨y, hy, e⟩ := List.mem_map.mp z
    exact h.1 (by rw [← Sum.inr.inj e]; exact hy)
theorem sort_names {ys : List Str} {ks : KT} (h : KtOk ks) (p : ys.Perm (ks.map (·.1))) (s : sortedS ys = true) : ys = ks.map (·.1) := by
  rcases h.names with e | e
  · rw [e] at p ⊢
    exact List.perm_singleton.mp p
  · rw [e] at p ⊢
    have hl := p.length_eq
    match ys, hl with
    | [a, b], _ =>
      have ha : a = "add" ∨ a = "put" := by
        rcases List.mem_cons.mp (p.mem_iff.mp List.mem_cons_self) with h1 | h1
        · exact .inl h1
        · exact .inr (List.mem_singleton.mp h1)
      have hb : b = "add" ∨ b = "put" := by
        rcases List.mem_cons.mp (p.mem_iff.mp (List.mem_cons_of_mem _ List.mem_cons_self)) with h1 | h1
        · exact .inl h1
        · exact .inr (List.mem_singleton.mp h1)
      have nd : [a, b].Nodup := p.nodup_iff.mpr (List.nodup_cons.mpr ⟨fun z => names_ne (List.mem_singleton.mp z), List.nodup_cons.mpr ⟨by simp, List.nodup_nil⟩⟩)
      have hne : a ≠ b := fun z => (List.nodup_cons.mp nd).1 (by rw [z]; simp)
      rcases ha with rfl | rfl <;> rcases hb with rfl | rfl
      · exact absurd rfl hne
      · rfl
      · exfalso
        revert s
        decide +kernel
      · exact absurd rfl hne
/-- a comprehension of a dict over a walk -/
theorem dc_it {J : It} {n : Nat} {G : Hp → Prop} {Y : Nat → Hp → V → Hp → Prop} (wk : Walk J n G Y) {g : TG} {tt : TT} {tk tv : TE} {vs : List Nat} {σ : L2.St} {H1 : Hp} {D : Addr} {Qd : Hp → Prop}
    (Pv : Nat → Hp → Prop) (h0 : Pv 0 (upd H1 D (.dK []))) (hG : ∀ i H, i ≤ n → Pv i H → G H)
    (hs : ∀ i x H H', i < n → Pv i H → Y i H x H' → g x (wipe σ vs) H' fun σ2 H2 => wipe σ2 vs = wipe σ vs ∧ tt σ2 H2 fun b H3 => if b = true then tk σ2 H3 fun y H4 => tv σ2 H4 fun z H5 =>
      ∃ kvs k, y = kV k ∧ H5 D = some (.dK kvs) ∧ kvs.length < sizeLine ∧ Pv (i + 1) (upd H5 D (.dK (putK kvs k z))) else Pv (i + 1) H3)
    (hd : ∀ H, Pv n H → Qd H) : ∃ W : Nat → Nat → Hp → Prop, (∃ m, W 0 m (upd H1 D (.dK []))) ∧ ∀ i m H, W i m H →
      (J.stop i H ∧ Qd H) ∨ (J.go i H ∧ ∃ Nx : Hp → Prop, (∀ H', Nx H' → ∃ m', m' < m ∧ W (i + 1) m' H') ∧ ∀ x H', J.yld i H x H' →
        g x (wipe σ vs) H' fun σ2 H2 => wipe σ2 vs = wipe σ vs ∧ tt σ2 H2 fun b H3 => if b = true then tk σ2 H3 fun y H4 => tv σ2 H4 fun z H5 => ∃ kvs k, y = kV k ∧ H5 D = some (.dK kvs) ∧ kvs.length < sizeLine ∧ Nx (upd H5 D (.dK (putK kvs k z))) else Nx H3) := by
  refine ⟨fun i m H => m = n - i ∧ i ≤ n ∧ Pv i H, ⟨_, rfl, Nat.zero_le _, h0⟩, ?_⟩
  rintro i m H ⟨em, hi, pv⟩
  have gg := hG i H hi pv
  rcases Nat.lt_or_eq_of_le hi with hlt | e
  · refine .inr ⟨wk.goes i H hlt gg, Pv (i + 1), fun H' p' => ⟨n - (i + 1), by omega, rfl, hlt, p'⟩, fun x H' y => ?_⟩
    exact hs i x H H' hlt pv (wk.yields i H x H' hlt gg y)
  · subst e
    exact .inl ⟨wk.stops H gg, hd H pv⟩
section
variable {P : Program} {w : World} {K : PySem.W.Frag} {mg : Str → Option Value} {base : Heap} {C : Addr}
/-! ### are_kinds -/
def spAreK : Sp := fun vs H Q _ => ∃ (d : Addr) (kvs : List (Key × V)) (ks : KT), vs = [.ref d] ∧ H d = some (.dK kvs) ∧ KvOk H kvs ks ∧ KtOk ks ∧ ∀ H', Same H H' → Q (.bl true) H'
abbrev nAreK : List Str := ["kinds", "kind"]
theorem scAreK : FnScope nAreK ["kinds"] (defScope sAreK) := ⟨rfl, rfl, rfl, by decide +kernel, rfl, by decide +kernel, by decide +kernel⟩
theorem ok_areK {f fW fI : Addr} {fd fdW fdI : FuncData} (F : Fun K "are_kinds" "are_kinds" sAreK f fd) (T : Txt K mg) (DW : Dfn P w K mg base "is_word" 1 ["thing"] spIsKW fW fdW) (DI : Dfn P w K mg base "is_kind" 2 ["thing"] spIsK fI fdI) : FnOk P w K mg base CX0 3 f fd ["kinds"] spAreK := by
  refine F.ok scAreK (fun vs H Q E h => ?_) (fun cdv A outer s H vs Q E hr h => ?_)
  · obtain ⟨d, kvs, ks, rfl, _⟩ := h
    rfl
  · obtain ⟨d, kvs, ks, rfl, hd, hkv, kok, k⟩ := h
    have nd := scAreK.nd
    have hu := hu_of hr
    have hr1 : Room 1 _ := hr.mono (by decide)
    refine ⟨_, pss_cons (ps_if (PW.pt (pw_or (pt_not (pt_val (pe_callB call_isi (by rfl) T.isinst (by decide +kernel) (pa_cons (pv 0) (pa_cons (pe_bltn (v := .ty "dict") (by rfl) T.dict (by decide +kernel) rfl) pa_nil)))))
        (pw_or1 (pt_not (pt_chain op_le op_le pe_int (pe_callB call_lenD (by rfl) T.len (by decide +kernel) (pa_cons (pv 0) pa_nil)) (pgl T.m2)))))) (pss_one (ps_ret pe_bl)) pss_nil)
      (pss_one (ps_ret (pe_callB (cr_all rfl) (by rfl) T.all (by decide +kernel) (pa_cons (pe_lock
        (pe_lc (own := [("kind", 1)]) (g := gName 1) (by rfl) nd (pi_keys (pv 0)) (blkOk_by (N := nAreK) (sc := defScope sAreK) (by decide +kernel))
          (fun _ _ _ _ _ => pg_name (i := 1) nd rfl (.inl rfl)) (fun _ _ _ _ _ => pts_nil)
          (fun _ _ _ _ _ => pe_and (pcl DW hr1 (pa_cons (pv 1) pa_nil)) (pe_one (pcl DI hr (pa_cons (pe_dget hu (pv 0) (pv 1) (fun _ _ => rfl)) pa_nil)))))) pa_nil)))), ?_⟩
    have hlen := hkv.len
    have hkl := kok.len
    refine ⟨_, rfl, .ref d, .ty "dict", .type "dict", .type "dict", true, rfl, .ty "dict", .base (.dK hd), kit_ty (by decide +kernel), true, rfl, ?_⟩
    refine iteF ?_
    refine ⟨_, rfl, d, kvs, rfl, hd, _, _, rfl, rfl, _, rfl, ?_⟩
    rw [decide_eq_true (show (1 : Int) ≤ (kvs.length : Int) by omega)]
    refine iteT ⟨_, _, rfl, rfl, _, rfl, ?_⟩
    rw [decide_eq_true (show (kvs.length : Int) ≤ 4 by omega)]
    refine iteF ?_
    refine ⟨d, _, hd, True.intro, fun od => ⟨_, rfl, d, od, rfl, .inl ⟨kvs, upd_same, fun D nD => ?_⟩⟩⟩
    let Hf := upd H d (.frz od (.dK kvs))
    have hf : Hf d = some (.frz od (.dK kvs)) := upd_same
    have tf : Tups H Hf := fun b ys e => by
      have : b ≠ d := fun z => by rw [z, hd] at e; cases e
      show upd H d _ b = _
      rw [upd_ne this]; exact e
    have kndp : (kvs.map (·.1)).Nodup := by rw [hkv.keys]; exact inr_nodup kok.nodup
    refine lc_it (walk_keys (d := d) (o := od) (kvs := kvs)) (fun j H'' => Same Hf H'' ∧ H'' D = some (.lst ((kvs.take j).map fun _ => V.bl true)))
      ⟨same_upd nD, upd_same⟩ (fun j H'' _ hh => hh.1 _ _ hf) ?_ ?_
    · rintro j y H'' H3 hj ⟨s2, hD⟩ ⟨rfl, ky, vy, hky, rfl⟩
      obtain ⟨q, hq, h1, t, h2, ht⟩ := hkv.at hky
      have hqm := List.mem_of_getElem? hq
      have e1 : ky = Sum.inr q.1 := h1
      have e2 : vy = .ref t := h2
      subst e1 e2
      refine ⟨rfl, ?_⟩
      refine ⟨_, rfl, q.1, rfl, kok.mem hqm, fun H4 s4 => ⟨true, rfl, ?_⟩⟩
      refine iteT ?_
      have s24 := s2.trans s4
      refine ⟨_, rfl, _, rfl, d, .ref t, rfl, ?_, t, q.2, rfl, s24 _ _ (tf _ _ ht), kok.ok q hqm, ?_⟩
      · rw [← valV_at kndp hky]
        exact .inl ⟨kvs, Sum.inr q.1, .inr ⟨od, s24 _ _ hf⟩, rfl, rfl⟩
      refine ⟨_, s4 _ _ hD, ?_, s24.mut nD, ?_⟩
      · rw [List.length_map, List.length_take]
        exact szl (by omega)
      · rw [upd_same, map_take_succ hky]
    · rintro H2 ⟨s2, hD⟩
      rw [List.take_length] at hD
      have hDd : D ≠ d := fun z => by
        rw [z] at nD
        have : (Hf d) = none := nD
        rw [hf] at this; cases this
      refine ⟨s2 _ _ hf, D, kvs.map (fun _ => true), rfl, ?_, ?_⟩
      · rw [List.map_map]
        refine SqL.of ?_
        rw [upd_ne hDd]; exact hD
      · have : (kvs.map (fun _ => true)).all id = true := by
          rw [List.all_map]; exact List.all_eq_true.mpr fun _ _ => rfl
        rw [this]
        refine k _ fun b o e => ?_
        by_cases hb : b = d
        · subst hb
          rw [upd_same, ← e, hd]
        · rw [upd_ne hb]
          refine s2 _ _ ?_
          show upd H d _ b = _
          rw [upd_ne hb]; exact e
end
end K3
namespace K3
open PySem PySem.Spec PyProof.Rows L2
theorem putF_ne {f g : Str} {v x : V} {r : List (Str × V)} (h : ¬ g = f) : putF f v ((g, x) :: r) = (g, x) :: putF f v r := by
  show (if g = f then _ else _) = _
  rw [if_neg h]
theorem pf1 (r : Int) : putF "registers" (.int r) [] = [(("registers" : Str), V.int r)] := rfl
theorem pf2 (r : Int) (a : Addr) : putF "kinds" (.ref a) (putF "registers" (.int r) []) = [(("registers" : Str), V.int r), (("kinds" : Str), V.ref a)] := by
  rw [pf1, putF_ne (by decide +kernel)]; rfl
theorem pf3 (r : Int) (a : Addr) (ho : Bool) : putF "holds" (.bl ho) (putF "kinds" (.ref a) (putF "registers" (.int r) [])) = [(("registers" : Str), V.int r), (("kinds" : Str), V.ref a), (("holds" : Str), V.bl ho)] := by
  rw [pf2, putF_ne (by decide +kernel), putF_ne (by decide +kernel)]; rfl
theorem pf4 (r : Int) (a : Addr) (ho od : Bool) : putF "orders" (.bl od) (putF "holds" (.bl ho) (putF "kinds" (.ref a) (putF "registers" (.int r) []))) = [(("registers" : Str), V.int r), (("kinds" : Str), V.ref a), (("holds" : Str), V.bl ho), (("orders" : Str), V.bl od)] := by
  rw [pf3, putF_ne (by decide +kernel), putF_ne (by decide +kernel), putF_ne (by decide +kernel)]; rfl
theorem pfl_eq (r : Int) (kdA : Addr) (ho od : Bool) (c : Addr) : putF "_aged" (.ref c) (putF "orders" (.bl od) (putF "holds" (.bl ho) (putF "kinds" (.ref kdA) (putF "registers" (.int r) [])))) = pfl r kdA ho od c := by
  rw [pf4, putF_ne (by decide +kernel), putF_ne (by decide +kernel), putF_ne (by decide +kernel), putF_ne (by decide +kernel)]; rfl
section
variable {P : Program} {w : World} {K : PySem.W.Frag} {mg : Str → Option Value} {base : Heap} {C : Addr}
def spInit (P : Program) (w : World) (C : Addr) : Sp := fun vs H Q _ => ∃ (p dx d : Addr) (t : PI0) (kvs : List (Key × V)), vs = [.ref p, .int t.regs, .ref d, .bl t.ho, .bl t.od] ∧ H p = some (.ins C dx []) ∧ 1 ≤ t.regs ∧ t.regs ≤ 4 ∧ H d = some (.dK kvs) ∧ KvOk H kvs t.ks ∧ KtOk t.ks ∧
  ∀ H' kdA c, But p H H' → PipeAt C H' p kdA c t → KdAt H' kdA t.ks → CacheAt P w t.ks H' c [] → Q .non H'
abbrev nInit : List Str := ["self", "registers", "kinds", "holds", "orders", "kind"]
theorem scInit : FnScope nInit ["self", "registers", "kinds", "holds", "orders"] (defScope sInit) := ⟨rfl, rfl, rfl, by decide +kernel, rfl, by decide +kernel, by decide +kernel⟩
theorem ok_init {f fN fA : Addr} {fd fdN fdA : FuncData} (F : Fun K "__init__" "Pipe.__init__" sInit f fd) (T : Txt K mg) (TC : TxtC K mg C) (DN : Dfn P w K mg base "is_number" 1 ["thing"] spNum fN fdN) (DA : Dfn P w K mg base "are_kinds" 3 ["kinds"] spAreK fA fdA) :
    FnOk P w K mg base CX0 4 f fd ["self", "registers", "kinds", "holds", "orders"] (spInit P w C) := by
  refine F.ok scInit (fun vs H Q E h => ?_) (fun cdv A outer s H vs Q E hr h => ?_)
  · obtain ⟨p, dx, d, t, kvs, rfl, _⟩ := h
    rfl
  · obtain ⟨p, dx, d, t, kvs, rfl, hp, h1, h4, hd, hkv, kok, k⟩ := h
    have nd := scInit.nd
    have hu := hu_of hr
    have hr1 : Room 1 _ := hr.mono (by decide)
    refine ⟨_, pss_cons (ps_if (PW.pt (pw_or (pt_not (pt_val (pcl DN hr1 (pa_cons (pv 1) pa_nil)))) (pw_or1 (pt_not (pt_chain op_le op_le pe_int (pv 1) (pgl T.m1)))))) (pss_one ps_never) pss_nil)
      (pss_cons (ps_if (pt_not (pt_val (pcl DA hr (pa_cons (pv 2) pa_nil)))) (pss_one ps_never) pss_nil)
      (pss_cons (ps_if (pt_not (pt_val (pe_callB call_isi (by rfl) T.isinst (by decide +kernel) (pa_cons (pv 3) (pa_cons (pe_bltn (v := .ty "bool") (by rfl) T.bool (by decide +kernel) rfl) pa_nil))))) (pss_one ps_never) pss_nil)
      (pss_cons (ps_if (pt_not (pt_val (pe_callB call_isi (by rfl) T.isinst (by decide +kernel) (pa_cons (pv 4) (pa_cons (pe_bltn (v := .ty "bool") (by rfl) T.bool (by decide +kernel) rfl) pa_nil))))) (pss_one ps_never) pss_nil)
      (pss_cons (ps_fld (pv 0) (pv 1) rfl)
      (pss_cons (ps_fld (pv 0) (pe_dc (own := [("kind", 5)]) (g := gName 5) (by rfl) nd (pi_list (pe_callB (call_sortedD rfl) (by rfl) T.sorted (by decide +kernel) (pa_cons (pv 2) pa_nil))) (blkOk_by (N := nInit) (sc := defScope sInit) (by decide +kernel))
          (fun _ _ _ _ _ => pg_name (i := 5) nd rfl (.inl rfl)) (fun _ _ _ _ _ => pts_nil) (fun _ _ _ _ _ => pv 5) (fun _ _ _ _ _ => pe_dget hu (pv 2) (pv 5) (fun _ _ => rfl))) rfl)
      (pss_cons (ps_fld (pv 0) (pv 3) rfl)
      (pss_cons (ps_fld (pv 0) (pv 4) rfl)
      (pss_one (ps_fld (pv 0) (pe_dnewC P w) rfl))))))))), ?_⟩
    have kndp : (kvs.map (·.1)).Nodup := by rw [hkv.keys]; exact inr_nodup kok.nodup
    have hkl := kok.len
    have hkvl := hkv.len
    have ndp : d ≠ p := ne_of hd hp (by intro z; cases z)
    -- the tests
    refine ⟨_, rfl, t.regs, rfl, true, rfl, ?_⟩
    refine iteF ?_
    refine ⟨_, rfl, _, _, rfl, rfl, _, rfl, ?_⟩
    rw [decide_eq_true h1]
    refine iteT ⟨_, _, rfl, rfl, _, rfl, ?_⟩
    rw [decide_eq_true h4]
    refine iteF ?_
    refine ⟨_, rfl, d, kvs, t.ks, rfl, hd, hkv, kok, fun H1 s1 => ⟨true, rfl, ?_⟩⟩
    refine iteF ?_
    refine ⟨_, rfl, .bl t.ho, .ty "bool", .type "bool", .type "bool", true, rfl, .ty "bool", .base (.bl t.ho), kit_ty (by decide +kernel), true, rfl, ?_⟩
    refine iteF ?_
    refine ⟨_, rfl, .bl t.od, .ty "bool", .type "bool", .type "bool", true, rfl, .ty "bool", .base (.bl t.od), kit_ty (by decide +kernel), true, rfl, ?_⟩
    refine iteF ?_
    -- self.registers = registers
    have hp1 := s1 _ _ hp
    refine ⟨_, rfl, _, rfl, p, C, dx, [], rfl, hp1, TC.cl, TC.nr, (by show 0 < 1000; decide), ?_⟩
    let H2 := upd H1 p (.ins C dx (putF "registers" (.int t.regs) []))
    have hp2 : H2 p = some (.ins C dx (putF "registers" (.int t.regs) [])) := upd_same
    have b2 : But p H H2 := fun b o n e => by
      show upd H1 p _ b = _
      rw [upd_ne n]; exact s1 _ _ e
    have hd2 : H2 d = some (.dK kvs) := b2 _ _ ndp hd
    have tp : ∀ {H'' : Hp}, But p H H'' → Tups H H'' := fun bb b ys e => bb _ _ (fun z => by rw [z, hp] at e; cases e) e
    -- self.kinds = {..}
    refine ⟨_, rfl, d, kvs, t.ks.map (·.1), rfl, .inl hd2, hkv.keys, by rw [List.length_map]; omega, fun ys q perm srt nq => ?_⟩
    have eys := sort_names kok perm srt
    subst eys
    have s3 := same_upd (o := HO.lst ((t.ks.map (·.1)).map V.str)) nq
    refine ⟨q, rfl, ⟨_, SqL.of upd_same⟩, fun D nD => dc_it (walk_list (K := K) (a := q) (xs := (t.ks.map (·.1)).map V.str)) (fun j H'' => Same H2 H'' ∧ H'' q = some (.lst ((t.ks.map (·.1)).map V.str)) ∧ H'' D = some (.dK (kvs.take j)))
      ⟨s3.trans (same_upd nD), (same_upd nD) _ _ upd_same, upd_same⟩ (fun j H'' _ hh => SqL.of hh.2.1) ?_ ?_⟩
    · rintro j y H'' H3 hj ⟨s4, hq4, hD4⟩ ⟨rfl, hy⟩
      obtain ⟨x, hx, rfl⟩ := map_at hy
      rw [List.getElem?_map] at hx
      obtain ⟨kq, hkq, rfl⟩ := Option.map_eq_some_iff.mp hx
      have hjl : j < kvs.length := by
        have := (List.getElem?_eq_some_iff.mp hkq).1
        omega
      have hkj : kvs[j]? = some kvs[j] := List.getElem?_eq_getElem hjl
      obtain ⟨kq', hkq', e1, ta, e2, hta⟩ := hkv.at hkj
      rw [hkq] at hkq'
      cases hkq'
      have ekv : kvs[j]? = some (Sum.inr kq.1, .ref ta) := by rw [hkj, ← e1, ← e2]
      refine ⟨rfl, ?_⟩
      refine ⟨_, rfl, _, rfl, _, rfl, d, .ref ta, rfl, ?_, ?_⟩
      · rw [← valV_at kndp ekv]
        exact .inl ⟨kvs, Sum.inr kq.1, .inl (s4 _ _ hd2), rfl, rfl⟩
      refine ⟨kvs.take j, Sum.inr kq.1, rfl, hD4, ?_, ?_, ?_, ?_⟩
      · rw [List.length_take]; exact szl (by omega)
      · have nD2 : H2 D = none := (s3).free nD
        exact s4.mut nD2
      · have : q ≠ D := fun z => by rw [z, hD4] at hq4; cases hq4
        rw [upd_ne this]; exact hq4
      · rw [upd_same, putK_new _ (valV_take kndp ekv), take_succ_at ekv]
    · rintro H4 ⟨s4, hq4, hD4⟩
      rw [List.length_map, List.length_map, ← hkvl, List.take_length] at hD4
      have nDp : D ≠ p := fun z => by
        have : H2 D = none := s3.free nD
        rw [z, hp2] at this; cases this
      have hp4 := s4 _ _ hp2
      refine ⟨_, rfl, p, C, dx, _, rfl, hp4, TC.cl, TC.nk, (by show 1 < 1000; decide), ?_⟩
      -- self.holds, self.orders
      have hl2 : (putF "kinds" (.ref D) (putF "registers" (.int t.regs) [])).length < 1000 := by
        rw [pf2]; show 2 < 1000; decide
      refine ⟨_, rfl, _, rfl, p, C, dx, _, rfl, upd_same, TC.cl, TC.nh, hl2, ?_⟩
      have hl3 : (putF "holds" (.bl t.ho) (putF "kinds" (.ref D) (putF "registers" (.int t.regs) []))).length < 1000 := by
        rw [pf3]; show 3 < 1000; decide
      refine ⟨_, rfl, _, rfl, p, C, dx, _, rfl, upd_same, TC.cl, TC.no, hl3, ?_⟩
      have hl4 : (putF "orders" (.bl t.od) (putF "holds" (.bl t.ho) (putF "kinds" (.ref D) (putF "registers" (.int t.regs) [])))).length < 1000 := by
        rw [pf4]; show 4 < 1000; decide
      intro c nc
      have ncp : p ≠ c := fun z => by rw [← z, upd_same] at nc; cases nc
      refine ⟨_, rfl, p, C, dx, _, rfl, (by rw [upd_ne ncp]; exact upd_same), TC.cl, TC.na, hl4, ?_⟩
      rw [pfl_eq]
      -- what stands now
      have b4 : But p H H4 := fun b o n e => s4 _ _ (b2 b o n e)
      have ncD : D ≠ c := fun z => by rw [← z, upd_ne nDp, upd_ne nDp, upd_ne nDp, hD4] at nc; cases nc
      have nc4 : H4 c = none := by
        rw [upd_ne ncp.symm, upd_ne ncp.symm, upd_ne ncp.symm] at nc
        exact nc
      have b5 : ∀ {o5 o6 o7 o8 o9 : HO}, But p H (upd (upd (upd (upd (upd H4 p o5) p o6) p o7) c o8) p o9) := fun {o5 o6 o7 o8 o9} b o n e => by
        have h4 := b4 b o n e
        have nbc : b ≠ c := fun z => by rw [z, nc4] at h4; cases h4
        rw [upd_ne n, upd_ne nbc, upd_ne n, upd_ne n, upd_ne n]; exact h4
      refine k _ D c b5 ⟨dx, upd_same⟩ ⟨kvs, .inl ?_, hkv.mono (tp b5)⟩ ⟨?_, fun _ h => by cases h⟩
      · rw [upd_ne nDp, upd_ne ncD, upd_ne nDp, upd_ne nDp, upd_ne nDp]; exact hD4
      · rw [upd_ne ncp.symm, upd_same]
end
end K3
namespace K3
open PySem PySem.Spec PyProof.Rows L2
theorem fmod_rng {a b : Int} (h : 0 < b) : 0 ≤ a.fmod b ∧ a.fmod b < b := by
  rw [Int.fmod_eq_emod_of_nonneg _ (Int.le_of_lt h)]
  exact ⟨Int.emod_nonneg _ (Int.ne_of_gt h), Int.emod_lt_of_pos _ h⟩
theorem dp_ints {K : PySem.W.Frag} {H : Hp} : ∀ ns : List Int, DpAll K H (ns.map V.int) (ns.map PyData.int)
  | [] => .nil
  | n :: ns => .cons (.int n) (dp_ints ns)
theorem shaped_ints (ns : List Int) : SeqAt.shaped (.list (ns.map PyData.int)) = true := by
  have h1 : PyData.canLayAll0 (ns.map PyData.int) = true := by
    induction ns with
    | nil => rfl
    | cons n ns ih => rw [List.map_cons]; unfold PyData.canLayAll0; rw [ih]; rfl
  have h2 : PyData.depthAll (ns.map PyData.int) ≤ 1 := by
    clear h1
    induction ns with
    | nil => exact Nat.zero_le _
    | cons n ns ih =>
      rw [List.map_cons]; unfold PyData.depthAll
      have : (PyData.int n).depth = 0 := rfl
      rw [this]; omega
  unfold SeqAt.shaped PyData.canLay0 PyData.depth
  rw [h1, Bool.true_and]
  exact decide_eq_true (by omega)
theorem eqv_empty (ds : List PyData) : PyData.eqv (.list ds) (.list []) = ds.isEmpty := by
  cases ds <;> rfl
section
variable {P : Program} {w : World} {K : PySem.W.Frag} {mg : Str → Option Value} {base : Heap} {C : Addr}
/-! ### _law_draw -/
def spDraw (K : PySem.W.Frag) : Sp := fun vs H Q _ => ∃ (a : Addr) (ns : List Int) (n m : Int), vs = [.ref a, .int n, .int m] ∧ SqL K H a (ns.map V.int) ∧ ns.length ≤ 63 ∧ 0 ≤ n ∧ n ≤ 100000 ∧ 1 ≤ m ∧ m ≤ 100000 ∧ ∀ H' r, Same H H' → 0 ≤ r → r < m → Q (.int r) H'
theorem scDraw : FnScope ["script", "at", "many", "row", "cell", "turn", "step", "mixed"] ["script", "at", "many"] (defScope sDraw) := ⟨rfl, rfl, rfl, by decide +kernel, rfl, by decide +kernel, by decide +kernel⟩
theorem ok_draw {f : Addr} {fd : FuncData} (F : Fun K "_law_draw" "_law_draw" sDraw f fd) (T : Txt K mg) : FnOk P w K mg base CX0 1 f fd ["script", "at", "many"] (spDraw K) := by
  refine F.ok scDraw (fun vs H Q E h => ?_) (fun cdv A outer s H vs Q E hr h => ?_)
  · obtain ⟨a, ns, n, m, rfl, _⟩ := h
    rfl
  · obtain ⟨a, ns, n, m, rfl, hS, hlen, n0, n1, m0, m1, k⟩ := h
    have nd := scDraw.nd
    refine ⟨_, Evl.pss_cut (ps_set (i := 3) nd rfl (.inl rfl) (pe_ifExp (pt_cmpR (neDK K hr.units) (pv 0) (plst pa_nil) (nomark _)) (pe_slice sl_list (pv 0) po_none (po_some pe_int)) (plst (pa_cons pe_int pa_nil))))
      (pss_cons (ps_par (i := 4) (j := 5) (by rfl) nd rfl rfl (by decide) rfl rfl (pa_cons (pe_ix (ixL K) (pv 3) (pe_op op_modN (pv 1) (pe_callB call_len_seq (by rfl) T.len (by decide +kernel) (pa_cons (pv 3) pa_nil))) (fun _ _ => rfl))
          (pa_cons (pe_op op_fdivN (pv 1) (pe_callB call_len_seq (by rfl) T.len (by decide +kernel) (pa_cons (pv 3) pa_nil))) pa_nil)) (by rfl))
      (pss_cons (ps_if (pt_cmpR op_ge (pv 4) (pe_op op_pow pe_int pe_int) (nomark _))
        (pss_cons (ps_set (i := 4) nd rfl (.inl rfl) (pe_op op_modN (pe_callTy call_int1 (by rfl) T.int (by decide +kernel) (pa_cons (pv 4) pa_nil)) (pe_op op_pow pe_int pe_int)))
        (pss_cons (ps_for PassesOwn.never rfl (pi_range1 rfl T.range (pa_cons (pe_op op_modN (pv 5) pe_int) pa_nil)) (pg_name (i := 6) nd rfl (.inl rfl)) (pss_one (ps_set (i := 4) nd rfl (.inl rfl) (pe_op op_fdivN (pv 4) pe_int))))
        (pss_one (ps_ret (pe_op op_modN (pe_op op_modN (pe_callTy call_int1 (by rfl) T.int (by decide +kernel) (pa_cons (pv 4) pa_nil)) pe_int) (pv 2)))))) pss_nil)
      (pss_cons (ps_set (i := 7) nd rfl (.inl rfl) (pe_op op_add (pe_op op_mul (pe_op op_add (pe_op op_add (pe_op op_modN (pe_callTy call_int1 (by rfl) T.int (by decide +kernel) (pa_cons (pe_op op_add (pv 4) (pe_op op_mul pe_int (pv 5))) pa_nil)) pe_int) (pe_op op_mul pe_int (pv 1))) pe_int) pe_int)
          (pe_op op_modN (pe_callTy call_int1 (by rfl) T.int (by decide +kernel) (pa_cons (pe_op op_fdivN (pv 4) pe_int) pa_nil)) pe_int)))
      (pss_one (ps_ret (pe_op op_modN (pe_callTy call_int1 (by rfl) T.int (by decide +kernel) (pa_cons (pe_op op_modN (pe_op op_mul (pe_op op_modN (pv 7) pe_int) pe_int) pe_int) pa_nil)) (pv 2))))))), ?_⟩
    have fin : ∀ (x : Int) H', Same H H' → Q (.int (x.fmod m)) H' := fun x H' s => k H' _ s (fmod_rng (by omega)).1 (fmod_rng (by omega)).2
    refine ⟨fun σ' H' => ∃ (p : Addr) (rs : List Int), σ' = [some (.ref a), some (.int n), some (.int m), some (.ref p), none, none, none, none] ∧ Same H H' ∧ H' p = some (.lst (rs.map V.int)) ∧ rs ≠ [] ∧ rs.length ≤ 63, ?_, ?_⟩
    · refine ⟨_, rfl, ?_⟩
      refine rd_l0 fun p1 H1 np1 s1 h1 => ?_
      refine ⟨.list (ns.map PyData.int), .list [], .lst (s1.seq hS) (dp_ints ns), .lst (SqL.of h1) .nil, shaped_ints ns, shaped_ints [], _, rfl, ?_⟩
      rw [eqv_empty]
      cases hns : ns with
      | nil =>
        refine iteF ?_
        refine rd_l1 fun p2 H2 np2 s2 h2 => ?_
        exact ⟨p2, [7], rfl, s1.trans s2, h2, by simp, by decide⟩
      | cons n0' ns' =>
        refine iteT ?_
        refine ⟨_, rfl, _, rfl, a, ns.map V.int, rfl, s1.seq hS, fun p2 np2 => ?_⟩
        have s2 := same_upd (o := HO.lst (cutV (ns.map V.int) none (some 60))) np2
        refine ⟨p2, ns.take 60, rfl, s1.trans s2, ?_, ?_, ?_⟩
        · rw [upd_same]
          have := cut_take (ns.map V.int) 60
          rw [show ((60 : Nat) : Int) = 60 from rfl] at this
          rw [this, ← List.map_take]
        · rw [hns]; simp
        · rw [List.length_take]; omega
    · rintro σ' H1 ⟨p, rs, rfl, s1, hp, hne, hrl⟩
      have hpos : 0 < rs.length := List.length_pos_iff.mpr hne
      have hL : (rs.map V.int).length = rs.length := List.length_map _
      obtain ⟨f0, f1⟩ := fmod_rng (a := n) (b := (rs.length : Int)) (by omega)
      obtain ⟨j, hj⟩ := Int.eq_ofNat_of_zero_le f0
      have hjl : j < rs.length := by omega
      obtain ⟨cell, hat⟩ : ∃ cell : Int, atI (rs.map V.int) (n.fmod (rs.length : Int)) = some (.int cell) := ⟨rs[j], by
        rw [hj]
        refine atI_nat ?_
        rw [List.getElem?_map, List.getElem?_eq_getElem hjl]; rfl⟩
      refine ⟨_, rfl, _, rfl, _, rfl, p, _, rfl, .inl (SqL.of hp), ?_⟩
      rw [hL]
      refine ⟨_, _, rfl, rfl, by omega, p, _, _, _, rfl, rfl, SqL.of hp, hat, ?_⟩
      refine ⟨_, rfl, _, rfl, p, _, rfl, .inl (SqL.of hp), ?_⟩
      rw [hL]
      refine ⟨_, _, rfl, rfl, ⟨by omega, by omega⟩, _, _, rfl, ?_⟩
      refine ⟨_, rfl, _, _, rfl, rfl, ⟨by decide, by decide, by decide⟩, _, _, rfl, rfl, _, rfl, ?_⟩
      by_cases hc : (10 : Int) ^ (18 : Int).toNat ≤ cell
      · rw [decide_eq_true hc]
        refine iteT ?_
        refine ⟨_, rfl, .inl ⟨_, rfl, _, _, rfl, rfl, ⟨by decide, by decide, by decide⟩, _, _, rfl, rfl, (show ((97 : Int) ^ (40 : Int).toNat) ≠ 0 by decide +kernel), ?_⟩⟩
        obtain ⟨g0, g1⟩ := fmod_rng (a := n.fdiv (rs.length : Int)) (b := 40) (by decide)
        refine ⟨_, rfl, _, _, rfl, rfl, (show (40 : Int) ≠ 0 by decide), _, rfl, by omega, by omega, ?_⟩
        refine for_range (n := ((n.fdiv (rs.length : Int)).fmod 40).toNat) (fun _ σ' H' => H' = H1 ∧ ∃ (c : Int) (v6 : Option V), σ' = [some (.ref a), some (.int n), some (.int m), some (.ref p), some (.int c), some (.int (n.fdiv (rs.length : Int))), v6, none])
          ⟨rfl, _, none, rfl⟩ ?_ ?_
        · rintro i σ' H' hi ⟨rfl, c, v6, rfl⟩
          refine ⟨_, rfl, _, _, rfl, rfl, ⟨by decide, by decide⟩, ?_⟩
          exact ⟨rfl, _, _, rfl⟩
        · rintro σ' H' ⟨rfl, c, v6, rfl⟩
          refine ⟨_, rfl, .inl ⟨_, rfl, _, _, rfl, rfl, (show (97 : Int) ≠ 0 by decide), _, rfl, _, _, rfl, rfl, (show m ≠ 0 by omega), ?_⟩⟩
          exact fin _ _ s1
      · rw [decide_eq_false hc]
        refine iteF ?_
        refine ⟨_, rfl, _, rfl, _, _, rfl, rfl, .inl ⟨by decide, by decide⟩, _, _, rfl, rfl, .inl ⟨_, rfl, _, _, rfl, rfl, (show (1000003 : Int) ≠ 0 by decide), _, rfl, _, _, rfl, rfl, .inl ⟨by decide, by decide⟩, _, _, rfl, rfl, _, _, rfl, rfl, _, _, rfl, rfl, .inr ⟨by decide, by decide⟩, ?_⟩⟩
        refine ⟨_, rfl, _, _, rfl, rfl, ⟨by decide, by decide⟩, .inl ⟨_, rfl, _, _, rfl, rfl, (show (999983 : Int) ≠ 0 by decide), _, _, rfl, rfl, ?_⟩⟩
        refine ⟨_, rfl, _, _, rfl, rfl, (show (2147483647 : Int) ≠ 0 by decide), _, _, rfl, rfl, .inr ⟨by decide, by decide⟩, _, _, rfl, rfl, (show (4294967291 : Int) ≠ 0 by decide), .inl ⟨_, rfl, _, rfl, _, _, rfl, rfl, (show m ≠ 0 by omega), ?_⟩⟩
        exact fin _ _ s1
end
end K3
namespace K3
open PySem PySem.Spec PyProof.Rows L2
/-! ### the law's own words -/
def ToldAt (H : Hp) (v : V) (t : PI0) : Prop := ∃ a kdA, v = .ref a ∧ H a = some (.tup [.int t.regs, .ref kdA, .bl t.ho, .bl t.od]) ∧ KdAt H kdA t.ks
theorem ToldAt.same {H H' : Hp} {v : V} {t : PI0} (h : ToldAt H v t) (s : Same H H') : ToldAt H' v t := let ⟨a, b, h1, h2, h3⟩ := h; ⟨a, b, h1, s _ _ h2, h3.same s⟩
def WsAt (H : Hp) (a : Addr) (ws : List W) : Prop := ∃ xs, H a = some (.lst xs) ∧ Al (WrAt H) xs ws
def OwAt (H : Hp) (v : V) : Option W → Prop
  | none => v = .non
  | some w => WrAt H v w
def near (ws : List W) (g : Int) : List W := ws.filter fun w => decide (w.goal = g)
theorem near_snoc (ws : List W) (w : W) (g : Int) : near (ws ++ [w]) g = near ws g ++ (if w.goal = g then [w] else []) := by
  unfold near
  rw [List.filter_append]
  by_cases h : w.goal = g
  · simp [h]
  · simp [h]
/-- writers whose kinds are known, in all -/
structure WsOk (ks : KT) (ws : List W) : Prop where
  kn : ∀ w ∈ ws, Kn ks w.kind
  sz : ws.length ≤ 100
theorem dec_int (i j : Int) : decide (V.int i = V.int j) = decide (i = j) := by
  by_cases h : i = j
  · rw [decide_eq_true h, decide_eq_true (congrArg V.int h)]
  · rw [decide_eq_false h, decide_eq_false (fun z => h (V.int.inj z))]
section
variable {P : Program} {w : World} {K : PySem.W.Frag} {mg : Str → Option Value} {base : Heap} {C : Addr}
/-! ### _law_there -/
def spThere (ti : PI0) : Sp := fun vs H Q _ => ∃ (v u : V) (w : W) (t : Int), vs = [v, u, .int t] ∧ ToldAt H v ti ∧ WrAt H u w ∧ Kn ti.ks w.kind ∧ Q (.bl (there (kd ti.ks) t w)) H
theorem scThere : FnScope ["told", "writer", "tick"] ["told", "writer", "tick"] (defScope sThere) := ⟨rfl, rfl, rfl, by decide +kernel, rfl, by decide +kernel, by decide +kernel⟩
theorem ok_there {ti : PI0} {f : Addr} {fd : FuncData} (F : Fun K "_law_there" "_law_there" sThere f fd) : FnOk P w K mg base CX0 1 f fd ["told", "writer", "tick"] (spThere ti) := by
  refine F.ok scThere (fun vs H Q E h => ?_) (fun cdv A outer s H vs Q E hr h => ?_)
  · obtain ⟨v, u, w, t, rfl, _⟩ := h
    rfl
  · obtain ⟨v, u, w, t, rfl, ⟨a, kdA, rfl, ha, kvs, hk, hkv⟩, ⟨b, rfl, hb⟩, ⟨ki, hki⟩, k⟩ := h
    have hu := hu_of hr
    obtain ⟨tk, htk, hti⟩ := hkv.get hki
    refine ⟨_, pss_one (ps_ret (pe_cmpR op_le (pe_op op_add (pe_ix ix_tup (pv 1) pe_int (fun _ _ => rfl)) (pe_ix ix_tup (pe_dget hu (pe_ix ix_tup (pv 0) pe_int (fun _ _ => rfl)) (pe_ix ix_tup (pv 1) pe_int (fun _ _ => rfl)) (fun _ _ => rfl)) pe_int (fun _ _ => rfl))) (pv 2) (nomark _))), ?_⟩
    refine ⟨_, rfl, b, _, 3, _, rfl, rfl, SqT.of hb, rfl, _, rfl, a, _, 1, _, rfl, rfl, SqT.of ha, rfl, _, rfl, b, _, 1, _, rfl, rfl, SqT.of hb, rfl, kdA, .ref tk, rfl, ?_, tk, _, 1, _, rfl, rfl, SqT.of hti, rfl, _, _, rfl, rfl, _, rfl, _, _, rfl, rfl, ?_⟩
    · rw [← htk]; exact .inl ⟨kvs, Sum.inr w.kind, hk, rfl, rfl⟩
    have : decide (w.tick + ki.len ≤ t) = there (kd ti.ks) t w := by
      unfold there land; rw [kd_len hki]
    show Q (.bl (decide (w.tick + ki.len ≤ t))) H
    rw [this]; exact k
/-! ### _law_last -/
def spLast (ti : PI0) : Sp := fun vs H Q _ => ∃ (v : V) (wa : Addr) (ws : List W) (g t : Int), vs = [v, .ref wa, .int g, .int t] ∧ ToldAt H v ti ∧ WsAt H wa ws ∧ WsOk ti.ks ws ∧ ∀ v', OwAt H v' (lastL (kd ti.ks) t (near ws g)) → Q v' H
theorem scLast : FnScope ["told", "writers", "goal", "tick", "found", "writer", "lands"] ["told", "writers", "goal", "tick"] (defScope sLast) := ⟨rfl, rfl, rfl, by decide +kernel, rfl, by decide +kernel, by decide +kernel⟩
theorem last_mem (k : Kd Str) (t : Int) (l : List W) (w : W) (h : lastL k t l = some w) : w ∈ l := by
  rcases last_inv k t l with ⟨h1, _⟩ | ⟨pre, v, post, h1, h2, _⟩
  · rw [h1] at h; cases h
  · rw [h2] at h; cases h; rw [h1]; simp
theorem lastL_snoc (k : Kd Str) (t : Int) (l : List W) (w : W) : lastL k t (l ++ [w]) = lastStep k t (lastL k t l) w := by
  unfold lastL; rw [List.foldl_append]; rfl
theorem near_mem {ws : List W} {g : Int} {w : W} (h : w ∈ near ws g) : w ∈ ws := (List.mem_filter.mp h).1
theorem ok_last {ti : PI0} {f fT : Addr} {fd fdT : FuncData} (F : Fun K "_law_last" "_law_last" sLast f fd) (DT : Dfn P w K mg base "_law_there" 1 ["told", "writer", "tick"] (spThere ti) fT fdT) : FnOk P w K mg base CX0 2 f fd ["told", "writers", "goal", "tick"] (spLast ti) := by
  refine F.ok scLast (fun vs H Q E h => ?_) (fun cdv A outer s H vs Q E hr h => ?_)
  · obtain ⟨v, wa, ws, g, t, rfl, _⟩ := h
    rfl
  · obtain ⟨v, wa, ws, g, t, rfl, htold, ⟨xs, hw, hal⟩, wok, k⟩ := h
    have hu := hu_of hr
    have nd := scLast.nd
    obtain ⟨a, kdA, rfl, ha, kvs, hk, hkv⟩ := id htold
    refine ⟨_, pss_cons (ps_set (i := 4) nd rfl (.inl rfl) pe_non)
      (pss_cons (ps_for PassesOwn.never rfl (pi_list (pv 1)) (pg_name (i := 5) nd rfl (.inl rfl))
        (pss_one (ps_if (PW.pt (pw_and (pt_cmpR op_eq (pe_ix ix_tup (pv 5) pe_int (fun _ _ => rfl)) (pv 2) (nomark _)) (pw_and1 (pt_val (pcl DT hr (pa_cons (pv 0) (pa_cons (pv 5) (pa_cons (pv 3) pa_nil))))))))
          (pss_cons (ps_set (i := 6) nd rfl (.inl rfl) (pe_op op_add (pe_ix ix_tup (pv 5) pe_int (fun _ _ => rfl)) (pe_ix ix_tup (pe_dget hu (pe_ix ix_tup (pv 0) pe_int (fun _ _ => rfl)) (pe_ix ix_tup (pv 5) pe_int (fun _ _ => rfl)) (fun _ _ => rfl)) pe_int (fun _ _ => rfl))))
          (pss_one (ps_if (PW.pt (pw_or (pt_cmpR op_isN (pv 4) pe_non (nomark _)) (pw_or1 (pt_cmpR op_ge (pv 6) (pe_op op_add (pe_ix ix_tup (pv 4) pe_int (fun _ _ => rfl)) (pe_ix ix_tup (pe_dget hu (pe_ix ix_tup (pv 0) pe_int (fun _ _ => rfl)) (pe_ix ix_tup (pv 4) pe_int (fun _ _ => rfl)) (fun _ _ => rfl)) pe_int (fun _ _ => rfl))) (nomark _)))))
            (pss_one (ps_set (i := 4) nd rfl (.inl rfl) (pv 5))) pss_nil))) pss_nil)))
      (pss_one (ps_ret (pv 4)))), ?_⟩
    let kk := kd ti.ks
    let σ0 : V → Option V → Option V → L2.St := fun v4 v5 v6 => [some (.ref a), some (.ref wa), some (.int g), some (.int t), some v4, v5, v6]
    refine ⟨_, rfl, wa, rfl, ⟨_, SqL.of hw⟩, for_list (K := K) (xs := xs) (fun j σ' H' => H' = H ∧ ∃ v4 v5 v6, σ' = σ0 v4 v5 v6 ∧ OwAt H v4 (lastL kk t (near (ws.take j) g)))
      ⟨rfl, .non, none, none, rfl, rfl⟩ (fun j σ' H' _ hh => by obtain ⟨rfl, _⟩ := hh; exact SqL.of hw) ?_ ?_⟩
    · rintro j y σ' H' hj ⟨rfl, v4, v5, v6, rfl, ho⟩
      obtain ⟨w, hwj, b, rfl, hb⟩ := hal.at hj
      have hwm := List.mem_of_getElem? hwj
      obtain ⟨ki, hki⟩ := wok.kn w hwm
      obtain ⟨tk, htk, hti⟩ := hkv.get hki
      have en : near (ws.take (j + 1)) g = near (ws.take j) g ++ (if w.goal = g then [w] else []) := by rw [take_succ_at hwj, near_snoc]
      refine ⟨_, rfl, b, _, 2, _, rfl, rfl, SqT.of hb, rfl, _, rfl, rfl, _, rfl, ?_⟩
      rw [dec_int]
      by_cases hg : w.goal = g
      · rw [if_pos hg] at en
        rw [decide_eq_true hg]
        refine iteT ?_
        refine ⟨_, rfl, _, rfl, _, rfl, _, _, w, t, rfl, htold, ⟨b, rfl, hb⟩, ⟨ki, hki⟩, _, rfl, ?_⟩
        have step : lastL kk t (near (ws.take (j + 1)) g) = lastStep kk t (lastL kk t (near (ws.take j) g)) w := by rw [en, lastL_snoc]
        cases hth : there kk t w with
        | false =>
          refine iteF ⟨rfl, v4, _, v6, rfl, ?_⟩
          rw [step]; unfold lastStep; rw [hth]; exact ho
        | true =>
          refine iteT ?_
          refine ⟨_, rfl, b, _, 3, _, rfl, rfl, SqT.of hb, rfl, _, rfl, a, _, 1, _, rfl, rfl, SqT.of ha, rfl, _, rfl, b, _, 1, _, rfl, rfl, SqT.of hb, rfl, kdA, .ref tk, rfl, ?_, tk, _, 1, _, rfl, rfl, SqT.of hti, rfl, _, _, rfl, rfl, ?_⟩
          · rw [← htk]; exact .inl ⟨kvs, Sum.inr w.kind, hk, rfl, rfl⟩
          have el : land kk w = w.tick + ki.len := by unfold land; rw [kd_len hki]
          refine ⟨_, rfl, rfl, _, rfl, ?_⟩
          cases hl : lastL kk t (near (ws.take j) g) with
          | none =>
            rw [hl] at ho
            have ho' : v4 = .non := ho
            subst ho'
            refine iteT (iteT ?_)
            refine ⟨_, rfl, ⟨rfl, _, _, _, rfl, ?_⟩⟩
            rw [step, hl]; unfold lastStep; rw [hth]; exact ⟨b, rfl, hb⟩
          | some u =>
            rw [hl] at ho
            obtain ⟨c, rfl, hc⟩ : WrAt H' v4 u := ho
            have hum : u ∈ ws := List.mem_of_mem_take (near_mem (last_mem _ _ _ _ hl))
            obtain ⟨ku, hku⟩ := wok.kn u hum
            obtain ⟨tu, htu, htui⟩ := hkv.get hku
            refine iteF ?_
            refine ⟨_, rfl, _, rfl, c, _, 3, _, rfl, rfl, SqT.of hc, rfl, _, rfl, a, _, 1, _, rfl, rfl, SqT.of ha, rfl, _, rfl, c, _, 1, _, rfl, rfl, SqT.of hc, rfl, kdA, .ref tu, rfl, ?_, tu, _, 1, _, rfl, rfl, SqT.of htui, rfl, _, _, rfl, rfl, _, _, rfl, rfl, _, rfl, ?_⟩
            · rw [← htu]; exact .inl ⟨kvs, Sum.inr u.kind, hk, rfl, rfl⟩
            have eu : land kk u = u.tick + ku.len := by unfold land; rw [kd_len hku]
            rw [← el, ← eu]
            by_cases hle : land kk u ≤ land kk w
            · rw [decide_eq_true hle]
              refine iteT ?_
              refine ⟨_, rfl, ⟨rfl, _, _, _, rfl, ?_⟩⟩
              rw [step, hl]; unfold lastStep; rw [hth]
              simp only [if_true, hle]
              exact ⟨b, rfl, hb⟩
            · rw [decide_eq_false hle]
              refine iteF ⟨rfl, _, _, _, rfl, ?_⟩
              rw [step, hl]; unfold lastStep; rw [hth]
              simp only [if_true, hle, if_false]
              exact ⟨c, rfl, hc⟩
      · rw [if_neg hg, List.append_nil] at en
        rw [decide_eq_false hg]
        refine iteF (iteF ⟨rfl, v4, _, v6, rfl, ?_⟩)
        rw [en]; exact ho
    · rintro σ' H' ⟨rfl, v4, v5, v6, rfl, ho⟩
      rw [hal.1, List.take_length] at ho
      exact ⟨_, rfl, k _ ho⟩
end
end K3
namespace K3
open PySem PySem.Spec PyProof.Rows L2
theorem near_succ {ws : List W} {j : Nat} {w : W} {g : Int} (h : ws[j]? = some w) : near (ws.take (j + 1)) g = near (ws.take j) g ++ (if w.goal = g then [w] else []) := by rw [take_succ_at h, near_snoc]
theorem near_len (ws : List W) (g : Int) : (near ws g).length ≤ ws.length := List.length_filter_le _ _
theorem WsAt.same {H H' : Hp} {a : Addr} {ws : List W} (h : WsAt H a ws) (s : Same H H') : WsAt H' a ws := let ⟨xs, h1, h2⟩ := h; ⟨xs, s _ _ h1, h2.mono fun _ _ => WrAt.mono s.tups⟩
theorem newest_at (l : List W) : atI ([V.int (-1)] ++ l.map fun w => V.int w.place) (-1) = some (V.int (newest l)) := by
  rcases List.eq_nil_or_concat l with rfl | ⟨pre, w, rfl⟩
  · rfl
  · rw [List.concat_eq_append, List.map_append, ← List.append_assoc]
    have : newest (pre ++ [w]) = w.place := by unfold newest; rw [gl_snoc]; rfl
    rw [this]
    exact atI_last _ _
theorem dec_str (i j : Str) : decide (V.str i = V.str j) = decide (i = j) := by
  by_cases h : i = j
  · rw [decide_eq_true h, decide_eq_true (congrArg V.str h)]
  · rw [decide_eq_false h, decide_eq_false (fun z => h (V.str.inj z))]
/-! ### writers as data -/
def dW (w : W) : PyData := .tuple [.int w.place, .str w.kind, .int w.goal, .int w.tick]
theorem dp_wr {K : PySem.W.Frag} {H : Hp} {v : V} {w : W} (h : WrAt H v w) : Dp K H v (dW w) := by
  obtain ⟨a, rfl, h⟩ := h
  exact .tup (SqT.of h) (.cons (.int _) (.cons (.str _) (.cons (.int _) (.cons (.int _) .nil))))
theorem dp_wrs {K : PySem.W.Frag} {H : Hp} : ∀ {xs : List V} {ws : List W}, Al (WrAt H) xs ws → DpAll K H xs (ws.map dW)
  | [], [], _ => .nil
  | x :: xs, w :: ws, h => .cons (dp_wr (h.2 0 x w rfl rfl)) (dp_wrs ⟨by have := h.1; simp at this; exact this, fun i y d hy hd => h.2 (i + 1) y d (by simpa using hy) (by simpa using hd)⟩)
  | [], _ :: _, h => by have := h.1; simp at this
  | _ :: _, [], h => by have := h.1; simp at this
theorem lay_wr {w : W} (h : PyData.strOk w.kind = true) : (dW w).canLay0 = true := by
  unfold dW PyData.canLay0 PyData.canLayAll0
  unfold PyData.canLay0 PyData.canLayAll0
  unfold PyData.canLay0 PyData.canLayAll0
  unfold PyData.canLay0 PyData.canLayAll0
  unfold PyData.canLay0 PyData.canLayAll0
  rw [h]; rfl
theorem depth_wr (w : W) : (dW w).depth = 1 := rfl
theorem shaped_wr {w : W} (h : PyData.strOk w.kind = true) : SeqAt.shaped (dW w) = true := by
  unfold SeqAt.shaped
  rw [lay_wr h]; rfl
theorem shaped_wrs {ws : List W} (h : ∀ w ∈ ws, PyData.strOk w.kind = true) : SeqAt.shaped (.list (ws.map dW)) = true := by
  have h1 : PyData.canLayAll0 (ws.map dW) = true := by
    induction ws with
    | nil => rfl
    | cons n ns ih =>
      rw [List.map_cons]; unfold PyData.canLayAll0
      rw [lay_wr (h n List.mem_cons_self), ih fun w hw => h w (List.mem_cons_of_mem _ hw)]; rfl
  have h2 : PyData.depthAll (ws.map dW) ≤ 1 := by
    clear h h1
    induction ws with
    | nil => exact Nat.zero_le _
    | cons n ns ih =>
      rw [List.map_cons]; unfold PyData.depthAll
      rw [depth_wr]; omega
  unfold SeqAt.shaped PyData.canLay0 PyData.depth
  rw [h1, Bool.true_and]
  exact decide_eq_true (by omega)
theorem eqv_wr (w u : W) : PyData.eqv (dW w) (dW u) = decide (w = u) := by
  have e : PyData.eqv (dW w) (dW u) = (w.place == u.place && (w.kind == u.kind && (w.goal == u.goal && (w.tick == u.tick && true)))) := rfl
  rw [e]
  by_cases h : w = u
  · subst h; simp
  · rw [decide_eq_false h]
    rw [← Bool.not_eq_true]
    intro z
    simp only [Bool.and_eq_true, beq_iff_eq] at z
    exact h (by cases w; cases u; simp_all)
theorem WsOk.str {ks : KT} {ws : List W} (h : WsOk ks ws) (ko : KOk ks) : ∀ w ∈ ws, PyData.strOk w.kind = true := fun w hw => by
  obtain ⟨i, hi⟩ := h.kn w hw
  exact ko.str _ _ hi
section
variable {P : Program} {w : World} {K : PySem.W.Frag} {mg : Str → Option Value} {base : Heap} {C : Addr}
/-! ### _law_newest -/
def spNewest : Sp := fun vs H Q _ => ∃ (wa : Addr) (ws : List W) (g : Int), vs = [.ref wa, .int g] ∧ WsAt H wa ws ∧ ws.length ≤ 100 ∧ ∀ H', Same H H' → Q (.int (newest (near ws g))) H'
abbrev nNewest : List Str := ["writers", "goal", "writer"]
theorem scNewest : FnScope nNewest ["writers", "goal"] (defScope sNewest) := ⟨rfl, rfl, rfl, by decide +kernel, rfl, by decide +kernel, by decide +kernel⟩
theorem ok_newest {f : Addr} {fd : FuncData} (F : Fun K "_law_newest" "_law_newest" sNewest f fd) : FnOk P w K mg base CX0 1 f fd ["writers", "goal"] spNewest := by
  refine F.ok scNewest (fun vs H Q E h => ?_) (fun cdv A outer s H vs Q E hr h => ?_)
  · obtain ⟨wa, ws, g, rfl, _⟩ := h
    rfl
  · obtain ⟨wa, ws, g, rfl, ⟨xs, hw, hal⟩, hsz, k⟩ := h
    have nd := scNewest.nd
    refine ⟨_, pss_one (ps_ret (pe_ix (ixL K) (pe_op op_cat (plst (pa_cons (pe_un un_neg pe_int) pa_nil))
      (pe_lc (own := [("writer", 2)]) (g := gName 2) (by rfl) nd (pi_list (pv 0)) (blkOk_by (N := nNewest) (sc := defScope sNewest) (by decide +kernel))
          (fun _ _ _ _ _ => pg_name (i := 2) nd rfl (.inl rfl)) (fun _ _ _ _ _ => pts_one (pt_cmpR op_eq (pe_ix (ixT K) (pv 2) pe_int (fun _ _ => rfl)) (pv 1) (nomark _)))
          (fun _ _ _ _ _ => pe_ix (ixT K) (pv 2) pe_int (fun _ _ => rfl)))) (pe_un un_neg pe_int) (fun _ _ => rfl))), ?_⟩
    refine ⟨_, rfl, ?_⟩
    refine rd_l1 fun p1 H1 np1 s1 h1 => ?_
    have hw1 := s1 _ _ hw
    refine ⟨_, rfl, wa, rfl, ⟨_, SqL.of hw1⟩, fun D nD => lc_list (K := K) (xs := xs) (fun j H' => Same H1 H' ∧ H' D = some (.lst ((near (ws.take j) g).map fun w => V.int w.place)))
      ⟨same_upd nD, upd_same⟩ (fun j H' _ hh => SqL.of (hh.1 _ _ hw1)) ?_ ?_⟩
    · rintro j y H' hj ⟨s2, hD⟩
      obtain ⟨w, hwj, b, rfl, hb⟩ := hal.at hj
      have hb' := s2 _ _ (s1 _ _ hb)
      refine ⟨rfl, ?_⟩
      refine ⟨_, rfl, b, _, 2, _, rfl, rfl, SqT.of hb', rfl, _, rfl, rfl, _, rfl, ?_⟩
      rw [dec_int]
      by_cases hg : w.goal = g
      · rw [decide_eq_true hg]
        refine iteT ⟨_, rfl, b, _, 0, _, rfl, rfl, SqT.of hb', rfl, _, hD, ?_, s2.mut nD, ?_⟩
        · rw [List.length_map]
          have a1 := near_len (ws.take j) g
          rw [List.length_take] at a1
          exact szl (by omega)
        · rw [upd_same, near_succ hwj, if_pos hg, List.map_append]; rfl
      · rw [decide_eq_false hg]
        refine iteF ⟨s2, ?_⟩
        rw [near_succ hwj, if_neg hg, List.append_nil]; exact hD
    · rintro H2 ⟨s2, hD⟩
      rw [hal.1, List.take_length] at hD
      refine ⟨p1, D, _, _, rfl, rfl, s2 _ _ h1, hD, ?_, fun p np => ?_⟩
      · rw [List.length_map]
        have a1 := near_len ws g
        exact sz (by show 1 + (near ws g).length ≤ 100000; omega)
      · refine ⟨_, rfl, p, _, _, _, rfl, rfl, SqL.of upd_same, newest_at _, ?_⟩
        exact k _ ((s1.trans s2).trans (same_upd np))
/-! ### _law_read -/
def spRead (ti : PI0) : Sp := fun vs H Q _ => ∃ (v : V) (wa : Addr) (ws : List W) (g t : Int), vs = [v, .ref wa, .int g, .int t] ∧ ToldAt H v ti ∧ WsAt H wa ws ∧ WsOk ti.ks ws ∧ Q (.int (readOf (kd ti.ks) t (near ws g))) H
theorem scRead : FnScope ["told", "writers", "source", "tick", "last", "found", "writer", "way"] ["told", "writers", "source", "tick"] (defScope sRead) := ⟨rfl, rfl, rfl, by decide +kernel, rfl, by decide +kernel, by decide +kernel⟩
theorem ok_read {ti : PI0} {f fT fL : Addr} {fd fdT fdL : FuncData} (F : Fun K "_law_read" "_law_read" sRead f fd) (T : Txt K mg) (DT : Dfn P w K mg base "_law_there" 1 ["told", "writer", "tick"] (spThere ti) fT fdT)
    (DL : Dfn P w K mg base "_law_last" 2 ["told", "writers", "goal", "tick"] (spLast ti) fL fdL) : FnOk P w K mg base CX0 3 f fd ["told", "writers", "source", "tick"] (spRead ti) := by
  refine F.ok scRead (fun vs H Q E h => ?_) (fun cdv A outer s H vs Q E hr h => ?_)
  · obtain ⟨v, wa, ws, g, t, rfl, _⟩ := h
    rfl
  · obtain ⟨v, wa, ws, g, t, rfl, htold, hws, wok, k⟩ := h
    have hu := hu_of hr
    have hr1 : Room 1 _ := hr.mono (by decide)
    have nd := scRead.nd
    obtain ⟨a, kdA, rfl, ha, kvs, hk, hkv⟩ := id htold
    obtain ⟨xs, hw, hal⟩ := id hws
    refine ⟨_, pss_cons (ps_set (i := 4) nd rfl (.inl rfl) (pcl DL hr (pa_cons (pv 0) (pa_cons (pv 1) (pa_cons (pv 2) (pa_cons (pv 3) pa_nil))))))
      (Evl.pss_cut (ps_set (i := 5) nd rfl (.inl rfl) (pe_ifExp (pt_cmpR op_isN (pv 4) pe_non (nomark _)) (pe_un un_neg pe_int) (pe_ix ix_tup (pv 4) pe_int (fun _ _ => rfl))))
      (pss_cons (ps_for PassesOwn.never rfl (pi_list (pv 1)) (pg_name (i := 6) nd rfl (.inl rfl))
        (pss_cons (ps_set (i := 7) nd rfl (.inl rfl) (pe_ix ix_tup (pe_dget hu (pe_ix ix_tup (pv 0) pe_int (fun _ _ => rfl)) (pe_ix ix_tup (pv 6) pe_int (fun _ _ => rfl)) (fun _ _ => rfl)) pe_int (fun _ _ => rfl)))
        (pss_one (ps_if (PW.pt (pw_and (pt_cmpR op_eq (pe_ix ix_tup (pv 6) pe_int (fun _ _ => rfl)) (pv 2) (nomark _)) (pw_and (pt_not (pt_val (pcl DT hr1 (pa_cons (pv 0) (pa_cons (pv 6) (pa_cons (pv 3) pa_nil))))))
            (pw_and (pt_cmpR op_notN (pv 7) pe_non (nomark _)) (pw_and1 (pt_cmpR op_ge (pe_op op_sub (pv 3) (pe_ix ix_tup (pv 6) pe_int (fun _ _ => rfl))) (pv 7) (nomark _)))))))
          (pss_one (ps_set (i := 5) nd rfl (.inl rfl) (pe_callB (call_max2 rfl) (by rfl) T.max (by decide +kernel) (pa_cons (pv 5) (pa_cons (pe_ix ix_tup (pv 6) pe_int (fun _ _ => rfl)) pa_nil))))) pss_nil))))
      (pss_one (ps_ret (pv 5))))), ?_⟩
    let kk := kd ti.ks
    refine ⟨_, rfl, _, rfl, _, rfl, _, rfl, _, wa, ws, g, t, rfl, htold, hws, wok, fun v4 ho => ?_⟩
    let σ0 : Int → Option V → Option V → L2.St := fun f v6 v7 => [some (.ref a), some (.ref wa), some (.int g), some (.int t), some v4, some (.int f), v6, v7]
    refine ⟨fun σ' H' => H' = H ∧ σ' = σ0 (plc (lastL kk t (near ws g))) none none, ?_, ?_⟩
    · refine ⟨_, rfl, rfl, _, rfl, ?_⟩
      cases hl : lastL kk t (near ws g) with
      | none =>
        rw [hl] at ho
        have ho' : v4 = .non := ho
        subst ho'
        exact iteT ⟨_, rfl, rfl, rfl⟩
      | some u =>
        rw [hl] at ho
        obtain ⟨c, rfl, hc⟩ : WrAt H v4 u := ho
        exact iteF ⟨_, rfl, c, _, 0, _, rfl, rfl, SqT.of hc, rfl, rfl, rfl⟩
    · rintro σ' H' ⟨rfl, rfl⟩
      refine ⟨_, rfl, wa, rfl, ⟨_, SqL.of hw⟩, for_list (K := K) (xs := xs) (fun j σ' H'' => H'' = H' ∧ ∃ v6 v7, σ' = σ0 ((near (ws.take j) g).foldl (readStep kk t) (plc (lastL kk t (near ws g)))) v6 v7)
        ⟨rfl, none, none, rfl⟩ (fun j σ' H'' _ hh => by obtain ⟨rfl, _⟩ := hh; exact SqL.of hw) ?_ ?_⟩
      · rintro j y σ' H'' hj ⟨rfl, v6, v7, rfl⟩
        obtain ⟨w, hwj, b, rfl, hb⟩ := hal.at hj
        have hwm := List.mem_of_getElem? hwj
        obtain ⟨ki, hki⟩ := wok.kn w hwm
        obtain ⟨tk, htk, hti⟩ := hkv.get hki
        have en := near_succ (g := g) hwj
        refine ⟨_, rfl, a, _, 1, _, rfl, rfl, SqT.of ha, rfl, _, rfl, b, _, 1, _, rfl, rfl, SqT.of hb, rfl, kdA, .ref tk, rfl, ?_, tk, _, 2, _, rfl, rfl, SqT.of hti, rfl, ?_⟩
        · rw [← htk]; exact .inl ⟨kvs, Sum.inr w.kind, hk, rfl, rfl⟩
        refine ⟨_, rfl, b, _, 2, _, rfl, rfl, SqT.of hb, rfl, _, rfl, rfl, _, rfl, ?_⟩
        rw [dec_int]
        by_cases hg : w.goal = g
        · rw [if_pos hg] at en
          rw [decide_eq_true hg]
          refine iteT ?_
          have step : (near (ws.take (j + 1)) g).foldl (readStep kk t) (plc (lastL kk t (near ws g))) = readStep kk t ((near (ws.take j) g).foldl (readStep kk t) (plc (lastL kk t (near ws g)))) w := by
            rw [en, List.foldl_append]; rfl
          have er : ready kk t w = (!there kk t w && (match ki.way with
            | none => false
            | some x => decide (x ≤ t - w.tick))) := by
            unfold ready
            rw [kd_way hki]
            all_goals (cases ki.way <;> rfl)
          have skip : ready kk t w = false → (H'' = H'' ∧ ∃ v6 v7', σ0 ((near (ws.take j) g).foldl (readStep kk t) (plc (lastL kk t (near ws g)))) (some (.ref b)) (some (oV ki.way)) = σ0 ((near (ws.take (j + 1)) g).foldl (readStep kk t) (plc (lastL kk t (near ws g)))) v6 v7') := fun h => by
            refine ⟨rfl, some (.ref b), some (oV ki.way), ?_⟩
            rw [step, readStep_eq, h, if_neg Bool.false_ne_true]
          refine ⟨_, rfl, _, rfl, _, rfl, _, _, w, t, rfl, htold, ⟨b, rfl, hb⟩, ⟨ki, hki⟩, _, rfl, ?_⟩
          cases hth : there kk t w with
          | true => exact iteF (iteF (skip (by rw [er, hth]; rfl)))
          | false =>
            refine iteT ?_
            cases hwy : ki.way with
            | none =>
              rw [hwy] at skip er
              refine ⟨_, rfl, rfl, _, rfl, ?_⟩
              exact iteF (iteF (skip (by rw [er]; simp)))
            | some x =>
              rw [hwy] at skip er
              refine ⟨_, rfl, rfl, _, rfl, ?_⟩
              refine iteT ?_
              refine ⟨_, rfl, _, rfl, b, _, 3, _, rfl, rfl, SqT.of hb, rfl, _, _, rfl, rfl, _, rfl, _, _, rfl, rfl, _, rfl, ?_⟩
              have er' : ready kk t w = decide (x ≤ t - w.tick) := by rw [er, hth]; rfl
              rw [← er']
              cases hrd : ready kk t w with
              | false => exact iteF (skip hrd)
              | true =>
                refine iteT ?_
                refine ⟨_, rfl, _, rfl, b, _, 0, _, rfl, rfl, SqT.of hb, rfl, _, _, rfl, ?_⟩
                refine ⟨rfl, some (.ref b), some (.int x), ?_⟩
                rw [step, readStep_eq, hrd, if_pos rfl]; rfl
        · rw [if_neg hg, List.append_nil] at en
          rw [decide_eq_false hg]
          refine iteF (iteF ⟨rfl, some (.ref b), some (oV ki.way), ?_⟩)
          rw [en]; rfl
      · rintro σ' H'' ⟨rfl, v6, v7, rfl⟩
        rw [hal.1, List.take_length]
        exact ⟨_, rfl, k⟩
end
end K3
namespace K3
open PySem PySem.Spec PyProof.Rows L2
/-! ### the law's word of held -/
def heldW (ti : PI0) (t : Int) (ws : List W) (i : Ins) : Bool :=
  (ti.ho && i.srcs.any fun s => srcHeld (kd ti.ks) t (near ws s)) || (ti.od && !decide (i.goal < 0) && (near ws i.goal).any (ordW (kd ti.ks) t ((kd ti.ks).len i.kind)))
theorem any_and {α : Type} (b : Bool) (p : α → Bool) : ∀ l : List α, l.any (fun s => b && p s) = (b && l.any p)
  | [] => by simp
  | x :: l => by rw [List.any_cons, List.any_cons, any_and b p l]; cases b <;> simp
theorem al_last {R : V → W → Prop} {xs : List V} {l : List W} (h : Al R xs l) {w : W} (hl : l.getLast? = some w) : ∃ x, atI xs (-1) = some x ∧ R x w := by
  rcases List.eq_nil_or_concat l with rfl | ⟨pre, u, rfl⟩
  · cases hl
  · rw [List.concat_eq_append] at *
    rw [gl_snoc] at hl
    cases hl
    obtain ⟨ys, y, rfl, _, hy⟩ := h.split rfl
    exact ⟨y, atI_last ys y, hy⟩
theorem isEmpty_map {α β : Type} (g : α → β) (l : List α) : (l.map g).isEmpty = l.isEmpty := by cases l <;> rfl
section
variable {P : Program} {w : World} {K : PySem.W.Frag} {mg : Str → Option Value} {base : Heap} {C : Addr}
def spLHeld (ti : PI0) : Sp := fun vs H Q _ => ∃ (v vi : V) (wa : Addr) (ws : List W) (i : Ins) (t : Int) (n : Nat), vs = [v, .ref wa, vi, .int t] ∧ ToldAt H v ti ∧ WsAt H wa ws ∧ WsOk ti.ks ws ∧ InAt H vi i ∧ InOk ti.ks n i ∧ ∀ H', Same H H' → Q (.bl (heldW ti t ws i)) H'
abbrev nLHeld : List Str := ["told", "writers", "one", "tick", "kind", "goal", "sources", "source", "writer", "near", "way"]
theorem scLHeld : FnScope nLHeld ["told", "writers", "one", "tick"] (defScope sLHeld) := ⟨rfl, rfl, rfl, by decide +kernel, rfl, by decide +kernel, by decide +kernel⟩
theorem ok_lheld {ti : PI0} {f fT : Addr} {fd fdT : FuncData} (F : Fun K "_law_held" "_law_held" sLHeld f fd) (ko : KOk ti.ks) (DT : Dfn P w K mg base "_law_there" 1 ["told", "writer", "tick"] (spThere ti) fT fdT) : FnOk P w K mg base CX0 2 f fd ["told", "writers", "one", "tick"] (spLHeld ti) := by
  refine F.ok scLHeld (fun vs H Q E h => ?_) (fun cdv A outer s H vs Q E hr h => ?_)
  · obtain ⟨v, vi, wa, ws, i, t, n, rfl, _⟩ := h
    rfl
  · obtain ⟨v, vi, wa, ws, i, t, n, rfl, htold, hws, wok, hin, iok, k⟩ := h
    have hu := hu_of hr
    have nd := scLHeld.nd
    obtain ⟨a, kdA, rfl, ha, kvs, hk, hkv⟩ := id htold
    obtain ⟨xs, hw, hal⟩ := id hws
    obtain ⟨ia, ib, rfl, hia, hib⟩ := id hin
    refine ⟨_, pss_cons (ps_asg (pv 2) (pg_tup (by rfl) (pgs_cons (pg_name (i := 4) nd rfl (.inl rfl)) (pgs_cons (pg_name (i := 5) nd rfl (.inl rfl)) (pgs_cons (pg_name (i := 6) nd rfl (.inl rfl)) pgs_nil)))))
      (pss_cons (ps_for PassesOwn.never rfl (pi_tup (pv 6)) (pg_name (i := 7) nd rfl (.inr rfl))
        (pss_cons (ps_setLc (i := 9) (own := [("writer", 8)]) (g := gName 8) (by rfl) nd rfl rfl (sw_true rfl rfl rfl (by decide +kernel)) (pi_list (pv 1)) (blkOk_by (N := nLHeld) (sc := defScope sLHeld) (by decide +kernel))
            (fun _ _ _ _ _ => pg_name (i := 8) nd rfl (.inl rfl)) (fun _ _ _ _ _ => pts_one (pt_cmpR op_eq (pe_ix (ixT K) (pv 8) pe_int (fun _ _ => rfl)) (pv 7) (nomark _))) (fun _ _ _ _ _ => pv 8))
        (pss_one (ps_if (PW.pt (pw_and (pt_val (pe_ix ix_tup (pv 0) pe_int (fun _ _ => rfl))) (pw_and (pt_cmpR (neDK K hr.units) (pv 9) (plst pa_nil) (nomark _))
            (pw_and1 (pt_not (pt_val (pcl DT hr (pa_cons (pv 0) (pa_cons (pe_ix (ixL K) (pv 9) (pe_un un_neg pe_int) (fun _ _ => rfl)) (pa_cons (pv 3) pa_nil))))))))))
          (pss_cons (ps_set (i := 10) nd rfl (.inl rfl) (pe_ix ix_tup (pe_dget hu (pe_ix ix_tup (pv 0) pe_int (fun _ _ => rfl)) (pe_ix ix_tup (pe_ix (ixL K) (pv 9) (pe_un un_neg pe_int) (fun _ _ => rfl)) pe_int (fun _ _ => rfl)) (fun _ _ => rfl)) pe_int (fun _ _ => rfl)))
          (pss_one (ps_if (PW.pt (pw_or (pt_cmpR op_isN (pv 10) pe_non (nomark _)) (pw_or1 (pt_cmpR op_lt (pe_op op_sub (pv 3) (pe_ix ix_tup (pe_ix (ixL K) (pv 9) (pe_un un_neg pe_int) (fun _ _ => rfl)) pe_int (fun _ _ => rfl))) (pv 10) (nomark _)))))
            (pss_one (ps_ret pe_bl)) pss_nil))) pss_nil))))
      (pss_cons (ps_if (PW.pt (pw_and (pt_val (pe_ix ix_tup (pv 0) pe_int (fun _ _ => rfl))) (pw_and1 (pt_cmpR op_ge (pv 5) pe_int (nomark _)))))
        (pss_one (ps_for PassesOwn.never rfl (pi_list (pv 1)) (pg_name (i := 8) nd rfl (.inl rfl))
          (pss_one (ps_if (PW.pt (pw_and (pt_cmpR op_eq (pe_ix ix_tup (pv 8) pe_int (fun _ _ => rfl)) (pv 5) (nomark _))
              (pw_and1 (pt_cmpR op_gt (pe_op op_add (pe_ix ix_tup (pv 8) pe_int (fun _ _ => rfl)) (pe_ix ix_tup (pe_dget hu (pe_ix ix_tup (pv 0) pe_int (fun _ _ => rfl)) (pe_ix ix_tup (pv 8) pe_int (fun _ _ => rfl)) (fun _ _ => rfl)) pe_int (fun _ _ => rfl)))
                (pe_op op_add (pv 3) (pe_ix ix_tup (pe_dget hu (pe_ix ix_tup (pv 0) pe_int (fun _ _ => rfl)) (pv 4) (fun _ _ => rfl)) pe_int (fun _ _ => rfl))) (nomark _)))))
            (pss_one (ps_ret pe_bl)) pss_nil)))) pss_nil)
      (pss_one (ps_ret pe_bl)))), ?_⟩
    let kk := kd ti.ks
    let tst : Int → Bool := fun s => ti.ho && srcHeld kk t (near ws s)
    let σ0 : Option V → Option V → Option V → Option V → L2.St := fun v7 v8 v9 v10 => [some (.ref a), some (.ref wa), some (.ref ia), some (.int t), some (.str i.kind), some (.int i.goal), some (.ref ib), v7, v8, v9, v10]
    refine ⟨_, rfl, ia, _, rfl, SqT.of hia, rfl, _, _, rfl, _, _, rfl, _, _, rfl, rfl, ?_⟩
    refine ⟨_, rfl, ib, rfl, ⟨_, SqT.of hib⟩, for_tup (K := K) (xs := i.srcs.map V.int) (fun j σ' H' => Same H H' ∧ (∃ v7 v8 v9 v10, σ' = σ0 v7 v8 v9 v10) ∧ (i.srcs.take j).any tst = false)
      ⟨Same.refl H, ⟨none, none, none, none, rfl⟩, rfl⟩ (fun j σ' H' _ hh => SqT.of (hh.1 _ _ hib)) ?_ ?_⟩
    · rintro j y σ' H' hj ⟨s1, ⟨v7, v8, v9, v10, rfl⟩, hany⟩
      obtain ⟨s0, hs0, rfl⟩ := map_at hj
      have hw1 := s1 _ _ hw
      refine ⟨_, rfl, wa, rfl, ⟨_, SqL.of hw1⟩, fun D nD => lc_list (K := K) (xs := xs) (fun j' H'' => Same H' H'' ∧ ∃ acc, H'' D = some (.lst acc) ∧ Al (WrAt H'') acc (near (ws.take j') s0))
        ⟨same_upd nD, [], upd_same, Al.nil⟩ (fun j' H'' _ hh => SqL.of (hh.1 _ _ hw1)) ?_ ?_⟩
      · rintro j' y' H'' hj' ⟨s2, acc, hD, hacc⟩
        obtain ⟨w, hwj, b, rfl, hb⟩ := hal.at hj'
        have hb' := s2 _ _ (s1 _ _ hb)
        refine ⟨rfl, ?_⟩
        refine ⟨_, rfl, b, _, 2, _, rfl, rfl, SqT.of hb', rfl, _, rfl, rfl, _, rfl, ?_⟩
        rw [dec_int]
        by_cases hg : w.goal = s0
        · rw [decide_eq_true hg]
          have tp : Tups H'' (upd H'' D (.lst (acc ++ [.ref b]))) := tups_lst hD
          refine iteT ⟨_, rfl, _, hD, ?_, s2.mut nD, acc ++ [.ref b], upd_same, ?_⟩
          · have a1 := near_len (ws.take j') s0
            rw [List.length_take] at a1
            have := wok.sz
            rw [hacc.1]
            exact szl (by omega)
          · rw [near_succ hwj, if_pos hg]
            exact Al.snoc (hacc.mono fun _ _ => WrAt.mono tp) ⟨b, rfl, tp _ _ hb'⟩
        · rw [decide_eq_false hg]
          refine iteF ⟨s2, acc, hD, ?_⟩
          rw [near_succ hwj, if_neg hg, List.append_nil]; exact hacc
      · rintro H2 ⟨s2, acc, hD, hacc⟩
        rw [hal.1, List.take_length] at hacc
        have s12 := s1.trans s2
        have ha2 := s12 _ _ ha
        have cont : tst s0 = false → ∀ v10', ∀ H3, Same H2 H3 → (Same H H3 ∧ (∃ u7 u8 u9 u10, (σ0 (some (.int s0)) v8 (some (.ref D)) v10') = σ0 u7 u8 u9 u10) ∧ (i.srcs.take (j + 1)).any tst = false) :=
          fun h0 v10' H3 s3 => ⟨s12.trans s3, ⟨_, _, _, _, rfl⟩, any_take_succ hs0 hany h0⟩
        have cont' : tst s0 = false → ∀ H3, Same H2 H3 → (Same H H3 ∧ (∃ v7' v8' v9' v10', (σ0 (some (.int s0)) v8 (some (.ref D)) v10) = σ0 v7' v8' v9' v10') ∧ (i.srcs.take (j + 1)).any tst = false) := fun h0 H3 s3 => cont h0 v10 H3 s3
        have yes : tst s0 = true → ∀ H3, Same H2 H3 → Q (.bl true) H3 := fun h0 H3 s3 => by
          have : heldW ti t ws i = true := by
            unfold heldW
            have h1 := any_of_at (p := tst) hs0 h0
            rw [any_and] at h1
            rw [h1]; rfl
          rw [this] at k
          exact k H3 (s12.trans s3)
        refine ⟨_, rfl, a, _, 2, _, rfl, rfl, SqT.of ha2, rfl, _, rfl, ?_⟩
        cases hho : ti.ho with
        | false => exact iteF (iteF (cont' (by show (ti.ho && _) = false; rw [hho]; rfl) H2 (Same.refl H2)))
        | true =>
          refine iteT ?_
          have et : tst s0 = srcHeld kk t (near ws s0) := by show (ti.ho && _) = _; rw [hho]; rfl
          have hstrs : ∀ w ∈ near ws s0, PyData.strOk w.kind = true := fun w hw => wok.str ko w (near_mem hw)
          refine ⟨_, rfl, ?_⟩
          refine rd_l0 fun p3 H3 np3 s3 h3 => ?_
          refine ⟨.list ((near ws s0).map dW), .list [], .lst (SqL.of (s3 _ _ hD)) (dp_wrs (hacc.mono fun _ _ => WrAt.mono s3.tups)), .lst (SqL.of h3) .nil, shaped_wrs hstrs, shaped_ints [], _, rfl, ?_⟩
          rw [eqv_empty, isEmpty_map]
          cases hgl : (near ws s0).getLast? with
          | none =>
            have hn : near ws s0 = [] := List.getLast?_eq_none_iff.mp hgl
            rw [hn]
            exact iteF (iteF (cont' (by rw [et]; unfold srcHeld; rw [hgl]) H3 s3))
          | some w =>
            have hne : (near ws s0).isEmpty = false := by
              cases hq : near ws s0 with
              | nil => rw [hq] at hgl; cases hgl
              | cons _ _ => rfl
            rw [hne]
            have hwm := near_mem (List.mem_of_getLast? hgl)
            obtain ⟨ki, hki⟩ := wok.kn w hwm
            obtain ⟨tk, htk, hti⟩ := hkv.get hki
            obtain ⟨x, hatx, b, rfl, hb⟩ := al_last hacc hgl
            have s13 := s12.trans s3
            have hb3 := s3 _ _ hb
            have ha3 := s13 _ _ ha
            have hti3 := s13 _ _ hti
            have hk3 : Rd H3 kdA (.dK kvs) := by
              rcases hk with h1 | ⟨o, h1⟩
              · exact .inl (s13 _ _ h1)
              · exact .inr ⟨o, s13 _ _ h1⟩
            have es : srcHeld kk t (near ws s0) = (!there kk t w && (match ki.way with
                | none => true
                | some x => decide (t - w.tick < x))) := by
              unfold srcHeld
              rw [hgl]
              simp only []
              rw [kd_way hki]
              all_goals (cases ki.way <;> rfl)
            refine iteT ?_
            refine ⟨_, rfl, _, rfl, _, rfl, D, acc, _, _, rfl, rfl, SqL.of (s3 _ _ hD), hatx, _, rfl, _, _, w, t, rfl, htold.same s13, ⟨b, rfl, hb3⟩, ⟨ki, hki⟩, _, rfl, ?_⟩
            cases hth : there kk t w with
            | true => exact iteF (cont' (by rw [et, es, hth]; rfl) H3 s3)
            | false =>
              refine iteT ?_
              refine ⟨_, rfl, a, _, 1, _, rfl, rfl, SqT.of ha3, rfl, _, rfl, _, rfl, D, acc, _, _, rfl, rfl, SqL.of (s3 _ _ hD), hatx, b, _, 1, _, rfl, rfl, SqT.of hb3, rfl, kdA, .ref tk, rfl, ?_, tk, _, 2, _, rfl, rfl, SqT.of hti3, rfl, ?_⟩
              · rw [← htk]; exact .inl ⟨kvs, Sum.inr w.kind, hk3, rfl, rfl⟩
              refine ⟨_, rfl, rfl, _, rfl, ?_⟩
              cases hwy : ki.way with
              | none => exact iteT (iteT (yes (by rw [et, es, hth, hwy]; rfl) H3 s3))
              | some x =>
                refine iteF ?_
                refine ⟨_, rfl, _, rfl, _, rfl, D, acc, _, _, rfl, rfl, SqL.of (s3 _ _ hD), hatx, b, _, 3, _, rfl, rfl, SqT.of hb3, rfl, _, _, rfl, rfl, _, rfl, _, _, rfl, rfl, _, rfl, ?_⟩
                have et2 : tst s0 = decide (t - w.tick < x) := by rw [et, es, hth, hwy]; rfl
                rw [← et2]
                cases ht2 : tst s0 with
                | true => exact iteT (yes ht2 H3 s3)
                | false => exact iteF (cont ht2 (some (.int x)) H3 s3)
    · rintro σ' H' ⟨s1, ⟨v7, v8, v9, v10, rfl⟩, hany⟩
      rw [List.length_map, List.take_length, any_and] at hany
      have eH : heldW ti t ws i = (ti.od && !decide (i.goal < 0) && (near ws i.goal).any (ordW kk t (kk.len i.kind))) := by
        unfold heldW; rw [hany]; rfl
      rw [eH] at k
      have ha1 := s1 _ _ ha
      have hw1 := s1 _ _ hw
      refine ⟨_, rfl, a, _, 3, _, rfl, rfl, SqT.of ha1, rfl, _, rfl, ?_⟩
      cases hod : ti.od with
      | false =>
        rw [hod] at k
        exact iteF (iteF (k H' s1))
      | true =>
        rw [hod] at k
        refine iteT ?_
        refine ⟨_, rfl, _, _, rfl, rfl, _, rfl, ?_⟩
        by_cases hg : i.goal < 0
        · rw [decide_eq_true hg] at k
          rw [decide_eq_false (show ¬ (0 : Int) ≤ i.goal by omega)]
          exact iteF (k H' s1)
        · rw [decide_eq_false hg] at k
          rw [decide_eq_true (show (0 : Int) ≤ i.goal by omega)]
          refine iteT ?_
          obtain ⟨kg, hkg⟩ := iok.kn
          obtain ⟨tg, htg, htgi⟩ := hkv.get hkg
          rw [kd_len hkg] at k
          have hk1 : Rd H' kdA (.dK kvs) := by
            rcases hk with h1 | ⟨o, h1⟩
            · exact .inl (s1 _ _ h1)
            · exact .inr ⟨o, s1 _ _ h1⟩
          refine ⟨_, rfl, wa, rfl, ⟨_, SqL.of hw1⟩, for_list (K := K) (xs := xs) (fun j σ' H'' => H'' = H' ∧ (∃ v8', σ' = σ0 v7 v8' v9 v10) ∧ (near (ws.take j) i.goal).any (ordW kk t kg.len) = false)
            ⟨rfl, ⟨_, rfl⟩, rfl⟩ (fun j σ' H'' _ hh => by obtain ⟨rfl, _⟩ := hh; exact SqL.of hw1) ?_ ?_⟩
          · rintro j y σ' H'' hj ⟨rfl, ⟨v8', rfl⟩, hno⟩
            obtain ⟨w, hwj, b, rfl, hb⟩ := hal.at hj
            have hwm := List.mem_of_getElem? hwj
            obtain ⟨ki, hki⟩ := wok.kn w hwm
            obtain ⟨tk, htk, hti⟩ := hkv.get hki
            have hb1 := s1 _ _ hb
            have en := near_succ (g := i.goal) hwj
            refine ⟨_, rfl, b, _, 2, _, rfl, rfl, SqT.of hb1, rfl, _, rfl, rfl, _, rfl, ?_⟩
            rw [dec_int]
            by_cases hgg : w.goal = i.goal
            · rw [if_pos hgg] at en
              rw [decide_eq_true hgg]
              refine iteT ?_
              refine ⟨_, rfl, b, _, 3, _, rfl, rfl, SqT.of hb1, rfl, _, rfl, a, _, 1, _, rfl, rfl, SqT.of ha1, rfl, _, rfl, b, _, 1, _, rfl, rfl, SqT.of hb1, rfl, kdA, .ref tk, rfl, ?_, tk, _, 1, _, rfl, rfl, SqT.of (s1 _ _ hti), rfl, _, _, rfl, rfl, ?_⟩
              · rw [← htk]; exact .inl ⟨kvs, Sum.inr w.kind, hk1, rfl, rfl⟩
              refine ⟨_, rfl, _, rfl, a, _, 1, _, rfl, rfl, SqT.of ha1, rfl, _, rfl, kdA, .ref tg, rfl, ?_, tg, _, 1, _, rfl, rfl, SqT.of (s1 _ _ htgi), rfl, _, _, rfl, rfl, _, _, rfl, rfl, _, rfl, ?_⟩
              · rw [← htg]; exact .inl ⟨kvs, Sum.inr i.kind, hk1, rfl, rfl⟩
              have eo : decide (t + kg.len < w.tick + ki.len) = ordW kk t kg.len w := by
                unfold ordW land; rw [kd_len hki]
              rw [eo]
              cases ho : ordW kk t kg.len w with
              | true =>
                refine iteT ?_
                have : (near ws i.goal).any (ordW kk t kg.len) = true := List.any_eq_true.mpr ⟨w, List.mem_filter.mpr ⟨hwm, decide_eq_true hgg⟩, ho⟩
                rw [this] at k
                exact k _ s1
              | false =>
                refine iteF ⟨rfl, ⟨_, rfl⟩, ?_⟩
                rw [en, List.any_append, hno]
                simp [ho]
            · rw [if_neg hgg, List.append_nil] at en
              rw [decide_eq_false hgg]
              refine iteF (iteF ⟨rfl, ⟨_, rfl⟩, ?_⟩)
              rw [en]; exact hno
          · rintro σ' H'' ⟨rfl, ⟨v8', rfl⟩, hno⟩
            rw [hal.1, List.take_length] at hno
            rw [hno] at k
            exact k _ s1
end
end K3
namespace K3
open PySem PySem.Spec PyProof.Rows L2
/-- the writers, by their goals -/
def byGoal (n : Nat) (ws : List W) : List (List W) := (List.range n).map fun (g : Nat) => near ws (g : Int)
theorem filterMap_take {α β : Type} {g : α → Option β} {l : List α} {i : Nat} {x : α} (h : l[i]? = some x) : (l.take (i + 1)).filterMap g = (l.take i).filterMap g ++ (g x).toList := by
  rw [take_succ_at h, List.filterMap_append]
  cases hg : g x with
  | none => simp [hg]
  | some y => simp [hg]
theorem filter_take {α : Type} {p : α → Bool} {l : List α} {i : Nat} {x : α} (h : l[i]? = some x) : (l.take (i + 1)).filter p = (l.take i).filter p ++ (if p x then [x] else []) := by
  rw [take_succ_at h, List.filter_append]
  cases hg : p x <;> simp [hg]
section
variable {P : Program} {w : World} {K : PySem.W.Frag} {mg : Str → Option Value} {base : Heap} {C : Addr}
def spStand (ti : PI0) : Sp := fun vs H Q _ => ∃ (v : V) (wa : Addr) (ws : List W) (t : Int), vs = [v, .ref wa, .int t] ∧ ToldAt H v ti ∧ WsAt H wa ws ∧ WsOk ti.ks ws ∧ 1 ≤ ti.regs ∧ ti.regs ≤ 4 ∧ ∀ v' H', Same H H' → StAt H' v' (stOf (kd ti.ks) t (byGoal ti.regs.toNat ws)) → Q v' H'
abbrev nStand : List Str := ["told", "writers", "tick", "found", "goal", "writer", "near", "last", "there", "row"]
theorem scStand : FnScope nStand ["told", "writers", "tick"] (defScope sStand) := ⟨rfl, rfl, rfl, by decide +kernel, rfl, by decide +kernel, by decide +kernel⟩
theorem ok_stand {ti : PI0} {f fT fL : Addr} {fd fdT fdL : FuncData} (F : Fun K "_law_standing" "_law_standing" sStand f fd) (T : Txt K mg) (ko : KOk ti.ks) (DT : Dfn P w K mg base "_law_there" 1 ["told", "writer", "tick"] (spThere ti) fT fdT)
    (DL : Dfn P w K mg base "_law_last" 2 ["told", "writers", "goal", "tick"] (spLast ti) fL fdL) : FnOk P w K mg base CX0 3 f fd ["told", "writers", "tick"] (spStand ti) := by
  refine F.ok scStand (fun vs H Q E h => ?_) (fun cdv A outer s H vs Q E hr h => ?_)
  · obtain ⟨v, wa, ws, t, rfl, _⟩ := h
    rfl
  · obtain ⟨v, wa, ws, t, rfl, htold, hws, wok, r1, r4, k⟩ := h
    have nd := scStand.nd
    have hr1 : Room 1 _ := hr.mono (by decide)
    obtain ⟨a, kdA, rfl, ha, hkd⟩ := id htold
    obtain ⟨xs, hw, hal⟩ := id hws
    refine ⟨_, pss_cons (ps_set (i := 3) nd rfl (.inl rfl) (plst pa_nil))
      (pss_cons (ps_for PassesOwn.never rfl (pi_range1 rfl T.range (pa_cons (pe_ix ix_tup (pv 0) pe_int (fun _ _ => rfl)) pa_nil)) (pg_name (i := 4) nd rfl (.inr rfl))
        (pss_cons (ps_setLc (i := 6) (own := [("writer", 5)]) (g := gName 5) (by rfl) nd rfl rfl (sw_true rfl rfl rfl (by decide +kernel)) (pi_list (pv 1)) (blkOk_by (N := nStand) (sc := defScope sStand) (by decide +kernel))
            (fun _ _ _ _ _ => pg_name (i := 5) nd rfl (.inl rfl)) (fun _ _ _ _ _ => pts_one (pt_cmpR op_eq (pe_ix (ixT K) (pv 5) pe_int (fun _ _ => rfl)) (pv 4) (nomark _))) (fun _ _ _ _ _ => pv 5))
        (pss_cons (ps_set (i := 7) nd rfl (.inl rfl) (pcl DL hr (pa_cons (pv 0) (pa_cons (pv 1) (pa_cons (pv 4) (pa_cons (pv 2) pa_nil))))))
        (pss_cons (ps_setLc (i := 8) (own := [("writer", 5)]) (g := gName 5) (by rfl) nd rfl rfl (sw_true rfl rfl rfl (by decide +kernel)) (pi_list (pv 6)) (blkOk_by (N := nStand) (sc := defScope sStand) (by decide +kernel))
            (fun _ _ _ _ _ => pg_name (i := 5) nd rfl (.inl rfl)) (fun _ _ _ _ _ => pts_one (pt_val (pcl DT hr1 (pa_cons (pv 0) (pa_cons (pv 5) (pa_cons (pv 2) pa_nil)))))) (fun _ _ _ _ _ => pv 5))
        (Evl.pss_cut (ps_set (i := 9) nd rfl (.inl rfl) (pe_ifExp (pt_cmpR op_notN (pv 7) pe_non (nomark _)) (plst pa_nil) (plst (pa_cons (ptup (pa_cons pe_str (pa_cons pe_int pa_nil))) pa_nil))))
        (pss_cons (ps_for PassesOwn.never rfl (pi_list (pv 6)) (pg_name (i := 5) nd rfl (.inl rfl))
          (pss_one (ps_if (pt_not (pt_val (pcl DT hr1 (pa_cons (pv 0) (pa_cons (pv 5) (pa_cons (pv 2) pa_nil))))))
            (pss_one (ps_expr (pe_bm PySem.F.plainAttrs_list PySem.F.slot_list_append PySem.F.type_list_append mt_append (pv 9) (pa_cons (ptup (pa_cons (pe_ix ix_tup (pv 5) pe_int (fun _ _ => rfl)) (pa_cons (pe_op op_sub (pv 2) (pe_ix ix_tup (pv 5) pe_int (fun _ _ => rfl))) pa_nil))) pa_nil))))
            (pss_one (ps_if (pt_cmpR (eqDK K hr.units) (pv 5) (pv 7) (nomark _))
              (pss_one (ps_expr (pe_bm PySem.F.plainAttrs_list PySem.F.slot_list_append PySem.F.type_list_append mt_append (pv 9) (pa_cons (ptup (pa_cons pe_str (pa_cons pe_int pa_nil))) pa_nil))))
              (pss_one (ps_if (pt_cmpR (eqDK K hr.units) (pv 5) (pe_ix (ixL K) (pv 8) (pe_un un_neg pe_int) (fun _ _ => rfl)) (nomark _))
                (pss_one (ps_expr (pe_bm PySem.F.plainAttrs_list PySem.F.slot_list_append PySem.F.type_list_append mt_append (pv 9) (pa_cons (ptup (pa_cons pe_str (pa_cons pe_int pa_nil))) pa_nil))))
                pss_nil)))))))
        (pss_one (ps_expr (pe_bm PySem.F.plainAttrs_list PySem.F.slot_list_append PySem.F.type_list_append mt_append (pv 3) (pa_cons (pe_callTy call_tuple_of (by rfl) T.tuple (by decide +kernel) (pa_cons (pv 9) pa_nil)) pa_nil))))))))))
      (pss_one (ps_ret (pe_callTy call_tuple_of (by rfl) T.tuple (by decide +kernel) (pa_cons (pv 3) pa_nil))))), ?_⟩
    let kk := kd ti.ks
    refine rd_l0 fun F0 H0 nF0 s0 hF0 => ?_
    have nF : H F0 = none := nF0
    let σ0 : Option V → Option V → Option V → Option V → Option V → Option V → L2.St := fun v4 v5 v6 v7 v8 v9 => [some (.ref a), some (.ref wa), some (.int t), some (.ref F0), v4, v5, v6, v7, v8, v9]
    refine ⟨_, rfl, a, _, 0, _, rfl, rfl, SqT.of (s0 _ _ ha), rfl, ti.regs, rfl, by omega, by omega, ?_⟩
    refine for_range (n := ti.regs.toNat) (fun j σ' H' => Same H H' ∧ (∃ v4 v5 v6 v7 v8 v9, σ' = σ0 v4 v5 v6 v7 v8 v9) ∧ ∃ acc, H' F0 = some (.lst acc) ∧ Al (EnsAt H') acc ((List.range j).map fun (g : Nat) => lawRow kk t (near ws (g : Int))))
      ⟨s0, ⟨none, none, none, none, none, none, rfl⟩, [], hF0, Al.nil⟩ ?_ ?_
    · rintro j σ' H' hj ⟨s1, ⟨v4, v5, v6, v7, v8, v9, rfl⟩, facc, hF, hfal⟩
      rw [Int.zero_add]
      let l := near ws (j : Int)
      have hw1 := s1 _ _ hw
      have lsz : l.length ≤ 100 := Nat.le_trans (near_len _ _) wok.sz
      have lkn : ∀ w ∈ l, Kn ti.ks w.kind := fun w hw => wok.kn w (near_mem hw)
      -- near
      refine ⟨_, rfl, wa, rfl, ⟨_, SqL.of hw1⟩, fun D nD => lc_list (K := K) (xs := xs) (fun j' H'' => Same H' H'' ∧ ∃ acc, H'' D = some (.lst acc) ∧ Al (WrAt H'') acc (near (ws.take j') (j : Int)))
        ⟨same_upd nD, [], upd_same, Al.nil⟩ (fun j' H'' _ hh => SqL.of (hh.1 _ _ hw1)) ?_ ?_⟩
      · rintro j' y' H'' hj' ⟨s2, acc, hD, hacc⟩
        obtain ⟨w, hwj, b, rfl, hb⟩ := hal.at hj'
        have hb' := s2 _ _ (s1 _ _ hb)
        refine ⟨rfl, ?_⟩
        refine ⟨_, rfl, b, _, 2, _, rfl, rfl, SqT.of hb', rfl, _, rfl, rfl, _, rfl, ?_⟩
        rw [dec_int]
        by_cases hg : w.goal = (j : Int)
        · rw [decide_eq_true hg]
          have tp : Tups H'' (upd H'' D (.lst (acc ++ [.ref b]))) := tups_lst hD
          refine iteT ⟨_, rfl, _, hD, ?_, s2.mut nD, acc ++ [.ref b], upd_same, ?_⟩
          · have a1 := near_len (ws.take j') (j : Int)
            rw [List.length_take] at a1
            have := wok.sz
            rw [hacc.1]
            exact szl (by omega)
          · rw [near_succ hwj, if_pos hg]
            exact Al.snoc (hacc.mono fun _ _ => WrAt.mono tp) ⟨b, rfl, tp _ _ hb'⟩
        · rw [decide_eq_false hg]
          refine iteF ⟨s2, acc, hD, ?_⟩
          rw [near_succ hwj, if_neg hg, List.append_nil]; exact hacc
      rintro H2 ⟨s2, nacc, hD, hnacc⟩
      rw [hal.1, List.take_length] at hnacc
      have s12 := s1.trans s2
      -- last
      refine ⟨_, rfl, _, rfl, _, rfl, _, rfl, _, wa, ws, (j : Int), t, rfl, htold.same s12, hws.same s12, wok, fun v7' ho => ?_⟩
      -- there
      refine ⟨_, rfl, D, rfl, ⟨_, SqL.of hD⟩, fun D2 nD2 => lc_list (K := K) (xs := nacc) (fun j' H'' => Same H2 H'' ∧ ∃ acc, H'' D2 = some (.lst acc) ∧ Al (WrAt H'') acc ((l.take j').filter (there kk t)))
        ⟨same_upd nD2, [], upd_same, Al.nil⟩ (fun j' H'' _ hh => SqL.of (hh.1 _ _ hD)) ?_ ?_⟩
      · rintro j' y' H'' hj' ⟨s3, acc, hD2, hacc⟩
        obtain ⟨w, hwj, b, rfl, hb⟩ := hnacc.at hj'
        have hb' := s3 _ _ hb
        have hwl : w ∈ l := List.mem_of_getElem? hwj
        refine ⟨rfl, ?_⟩
        refine ⟨_, rfl, _, rfl, _, rfl, _, _, w, t, rfl, htold.same (s12.trans s3), ⟨b, rfl, hb'⟩, lkn w hwl, _, rfl, ?_⟩
        have ef := filter_take (p := there kk t) hwj
        cases hth : there kk t w with
        | true =>
          have tp : Tups H'' (upd H'' D2 (.lst (acc ++ [.ref b]))) := tups_lst hD2
          refine iteT ⟨_, rfl, _, hD2, ?_, s3.mut nD2, acc ++ [.ref b], upd_same, ?_⟩
          · have a1 := List.length_filter_le (there kk t) (l.take j')
            rw [List.length_take] at a1
            rw [hacc.1]
            exact szl (by omega)
          · show Al _ _ ((l.take (j' + 1)).filter (there kk t))
            rw [ef, hth, if_pos rfl]
            exact Al.snoc (hacc.mono fun _ _ => WrAt.mono tp) ⟨b, rfl, tp _ _ hb'⟩
        | false =>
          refine iteF ⟨s3, acc, hD2, ?_⟩
          show Al _ _ ((l.take (j' + 1)).filter (there kk t))
          rw [ef, hth, if_neg Bool.false_ne_true, List.append_nil]; exact hacc
      rintro H3 ⟨s3, tacc, hD2, htacc⟩
      rw [hnacc.1, List.take_length] at htacc
      have s13 := s12.trans s3
      have nal3 : Al (WrAt H3) nacc l := hnacc.mono fun _ _ => WrAt.mono s3.tups
      have hD3 := s3 _ _ hD
      let init : List K3.E := if (lastL kk t l).isSome then [] else [(kk.z, 0)]
      -- row
      refine ⟨fun σ' H'' => ∃ R, H3 R = none ∧ σ' = σ0 (some (.int (j : Int))) v5 (some (.ref D)) (some v7') (some (.ref D2)) (some (.ref R)) ∧ Same H3 H'' ∧ ∃ acc, H'' R = some (.lst acc) ∧ Al (EnAt H'') acc init, ?_, ?_⟩
      · refine ⟨_, rfl, rfl, _, rfl, ?_⟩
        cases hl : lastL kk t l with
        | none =>
          rw [hl] at ho
          have ho' : v7' = .non := ho
          subst ho'
          refine iteF ?_
          refine rd_t2 fun p4 H4 s4 h4 => ?_
          refine rd_l1 fun R H5 nR s5 hR => ?_
          refine ⟨R, s4.free nR, rfl, s4.trans s5, _, hR, ?_⟩
          show Al _ _ (if (lastL kk t l).isSome then [] else [(kk.z, 0)])
          rw [hl]
          exact Al.one ⟨p4, rfl, s5 _ _ h4⟩
        | some u =>
          rw [hl] at ho
          obtain ⟨c, rfl, hc⟩ : WrAt H2 v7' u := ho
          refine iteT ?_
          refine rd_l0 fun R H5 nR s5 hR => ?_
          refine ⟨R, nR, rfl, s5, _, hR, ?_⟩
          show Al _ _ (if (lastL kk t l).isSome then [] else [(kk.z, 0)])
          rw [hl]
          exact Al.nil
      · rintro σ' H4 ⟨R, nR, rfl, s4, racc, hR, hracc⟩
        have hstrs : ∀ w ∈ l, PyData.strOk w.kind = true := fun w hw => wok.str ko w (near_mem hw)
        let rw1 : W → Option K3.E := row1 kk t (lastL kk t l) (newestThere kk t l)
        refine ⟨_, rfl, D, rfl, ⟨_, SqL.of (s4 _ _ hD3)⟩, for_list (K := K) (xs := nacc) (fun j' σ' H'' => Same H3 H'' ∧ (∃ v5', σ' = σ0 (some (.int (j : Int))) v5' (some (.ref D)) (some v7') (some (.ref D2)) (some (.ref R))) ∧ ∃ acc, H'' R = some (.lst acc) ∧ Al (EnAt H'') acc (init ++ (l.take j').filterMap rw1))
          ⟨s4, ⟨_, rfl⟩, racc, hR, by simpa using hracc⟩ (fun j' σ' H'' _ hh => SqL.of (hh.1 _ _ hD3)) ?_ ?_⟩
        · rintro j' y' σ' H'' hj' ⟨s5, ⟨v5', rfl⟩, acc, hR5, hacc⟩
          obtain ⟨w, hwj, b, rfl, hb⟩ := nal3.at hj'
          have hwl : w ∈ l := List.mem_of_getElem? hwj
          have hb5 := s5 _ _ hb
          have ef := filterMap_take (g := rw1) hwj
          have s15 := s13.trans s5
          have hle : acc.length ≤ 200 := by
            rw [hacc.1, List.length_append]
            have a1 := List.length_filterMap_le rw1 (l.take j')
            rw [List.length_take] at a1
            have a2 : init.length ≤ 1 := by
              show (if (lastL kk t l).isSome then ([] : List K3.E) else [(kk.z, 0)]).length ≤ 1
              split <;> simp
            omega
          have fin : ∀ (v' : V) (H6 : Hp) (e' : K3.E), Same H'' H6 → EnAt H6 v' e' → rw1 w = some e' →
              (Same H3 (upd H6 R (.lst (acc ++ [v']))) ∧ (∃ v5'', σ0 (some (.int (j : Int))) (some (.ref b)) (some (.ref D)) (some v7') (some (.ref D2)) (some (.ref R)) = σ0 (some (.int (j : Int))) v5'' (some (.ref D)) (some v7') (some (.ref D2)) (some (.ref R))) ∧
                ∃ acc', (upd H6 R (.lst (acc ++ [v']))) R = some (.lst acc') ∧ Al (EnAt (upd H6 R (.lst (acc ++ [v'])))) acc' (init ++ (l.take (j' + 1)).filterMap rw1)) := by
            intro v' H6 e' s6 he hr1'
            have tp : Tups H6 (upd H6 R (.lst (acc ++ [v']))) := tups_lst (s6 _ _ hR5)
            refine ⟨(s5.trans s6).mut nR, ⟨_, rfl⟩, acc ++ [v'], upd_same, ?_⟩
            rw [ef, hr1', ← List.append_assoc]
            exact Al.snoc (hacc.mono fun _ _ z => EnAt.mono tp (EnAt.mono s6.tups z)) (EnAt.mono tp he)
          refine ⟨_, rfl, _, rfl, _, rfl, _, _, w, t, rfl, htold.same s15, ⟨b, rfl, hb5⟩, lkn w hwl, _, rfl, ?_⟩
          cases hth : there kk t w with
          | false =>
            refine iteT ?_
            refine ⟨_, rfl, .inl ⟨rfl, _, SqL.of hR5⟩, ?_⟩
            refine ⟨_, rfl, b, _, 1, _, rfl, rfl, SqT.of hb5, rfl, _, rfl, _, rfl, b, _, 3, _, rfl, rfl, SqT.of hb5, rfl, _, _, rfl, rfl, ?_⟩
            refine rd_t2 fun p6 H6 s6 h6 => ?_
            refine ⟨R, acc, _, rfl, rfl, s6 _ _ hR5, szl (by omega), fin _ _ (w.kind, t - w.tick) s6 ⟨p6, rfl, h6⟩ ?_⟩
            show row1 kk t _ _ w = _
            unfold row1; rw [hth]; rfl
          | true =>
            refine iteF ?_
            -- there is a last one
            cases hl : lastL kk t l with
            | none =>
              exfalso
              rcases last_inv kk t l with ⟨_, h2⟩ | ⟨_, v, _, _, h2, _⟩
              · rw [h2 w hwl] at hth; cases hth
              · rw [hl] at h2; cases h2
            | some u =>
              rw [hl] at ho
              obtain ⟨c, rfl, hc⟩ : WrAt H2 v7' u := ho
              have hul : u ∈ l := last_mem _ _ _ _ hl
              have hc5 := s5 _ _ (s3 _ _ hc)
              refine ⟨_, rfl, _, rfl, dW w, dW u, dp_wr ⟨b, rfl, hb5⟩, dp_wr ⟨c, rfl, hc5⟩, shaped_wr (hstrs w hwl), shaped_wr (hstrs u hul), _, rfl, ?_⟩
              rw [eqv_wr]
              by_cases hwu : w = u
              · rw [decide_eq_true hwu]
                refine iteT ?_
                refine ⟨_, rfl, .inl ⟨rfl, _, SqL.of hR5⟩, ?_⟩
                refine rd_t2 fun p6 H6 s6 h6 => ?_
                refine ⟨R, acc, _, rfl, rfl, s6 _ _ hR5, szl (by omega), fin _ _ (("", 0) : K3.E) s6 ⟨p6, rfl, h6⟩ ?_⟩
                show row1 kk t _ _ w = _
                unfold row1
                rw [hth, hl, if_neg (fun z => by cases z), if_pos (by rw [hwu])]; rfl
              · rw [decide_eq_false hwu]
                refine iteF ?_
                have hmem : w ∈ l.filter (there kk t) := List.mem_filter.mpr ⟨hwl, hth⟩
                obtain ⟨q, hq⟩ : ∃ q, (l.filter (there kk t)).getLast? = some q := by
                  cases hgl : (l.filter (there kk t)).getLast? with
                  | none => rw [List.getLast?_eq_none_iff.mp hgl] at hmem; cases hmem
                  | some q => exact ⟨q, rfl⟩
                have hql : q ∈ l := (List.mem_filter.mp (List.mem_of_getLast? hq)).1
                obtain ⟨x, hatx, d, rfl, hd⟩ := al_last htacc hq
                have hd5 := s5 _ _ hd
                refine ⟨_, rfl, _, rfl, _, rfl, D2, tacc, _, _, rfl, rfl, SqL.of (s5 _ _ hD2), hatx, dW w, dW q, dp_wr ⟨b, rfl, hb5⟩, dp_wr ⟨d, rfl, hd5⟩, shaped_wr (hstrs w hwl), shaped_wr (hstrs q hql), _, rfl, ?_⟩
                rw [eqv_wr]
                by_cases hwq : w = q
                · rw [decide_eq_true hwq]
                  refine iteT ?_
                  refine ⟨_, rfl, .inl ⟨rfl, _, SqL.of hR5⟩, ?_⟩
                  refine rd_t2 fun p6 H6 s6 h6 => ?_
                  refine ⟨R, acc, _, rfl, rfl, s6 _ _ hR5, szl (by omega), fin _ _ (("", 1) : K3.E) s6 ⟨p6, rfl, h6⟩ ?_⟩
                  show row1 kk t _ _ w = _
                  unfold row1 newestThere
                  rw [hth, hl, hq, if_neg (fun z => by cases z), if_neg (fun z => hwu (Option.some.inj z)), if_pos (by rw [hwq])]; rfl
                · rw [decide_eq_false hwq]
                  refine iteF ⟨s5, ⟨_, rfl⟩, acc, hR5, ?_⟩
                  have : rw1 w = none := by
                    show row1 kk t _ _ w = _
                    unfold row1 newestThere
                    rw [hth, hl, hq, if_neg (fun z => by cases z), if_neg (fun z => hwu (Option.some.inj z)), if_neg (fun z => hwq (Option.some.inj z))]
                  rw [ef, this]
                  rw [show (none : Option K3.E).toList = [] from rfl, List.append_nil]; exact hacc
        · rintro σ' H5 ⟨s5, ⟨v5', rfl⟩, acc, hR5, hacc⟩
          rw [nal3.1, List.take_length] at hacc
          have hF5 : H5 F0 = some (.lst facc) := s5 _ _ (s3 _ _ (s2 _ _ hF))
          refine ⟨_, rfl, .inl ⟨rfl, _, SqL.of hF5⟩, ?_⟩
          refine ⟨_, rfl, R, acc, rfl, .inl ⟨SqL.of hR5, fun p6 n6 => ?_⟩⟩
          have s6 := same_upd (o := HO.tup acc) n6
          have s16 := (s13.trans s5).trans s6
          have tp : Tups (upd H5 p6 (.tup acc)) (upd (upd H5 p6 (.tup acc)) F0 (.lst (facc ++ [.ref p6]))) := tups_lst (s6 _ _ hF5)
          have hfl : facc.length = j := by rw [hfal.1]; simp
          refine ⟨F0, facc, _, rfl, rfl, s6 _ _ hF5, szl (by omega), s16.mut nF, ⟨_, _, _, _, _, _, rfl⟩, facc ++ [.ref p6], upd_same, ?_⟩
          rw [List.range_succ, List.map_append]
          refine Al.snoc (hfal.mono fun _ _ z => EnsAt.mono tp (EnsAt.mono (((s2.trans s3).trans s5).trans s6).tups z)) ⟨p6, acc, rfl, tp _ _ upd_same, ?_⟩
          exact hacc.mono fun _ _ z => EnAt.mono tp (EnAt.mono s6.tups z)
    · rintro σ' H' ⟨s1, ⟨v4, v5, v6, v7, v8, v9, rfl⟩, facc, hF, hfal⟩
      refine ⟨_, rfl, F0, facc, rfl, .inl ⟨SqL.of hF, fun p6 n6 => ?_⟩⟩
      have s6 := same_upd (o := HO.tup facc) n6
      refine k _ _ (s1.trans s6) ⟨p6, facc, rfl, upd_same, ?_⟩
      unfold stOf byGoal
      rw [List.map_map]
      exact hfal.mono fun _ _ => EnsAt.mono s6.tups
end
end K3
namespace K3
open PySem PySem.Spec PyProof.Rows L2
theorem tups_dk {H : Hp} {D : Addr} {kvs : List (Key × V)} {o : HO} (h : H D = some (.dK kvs)) : Tups H (upd H D o) := fun b xs e => by
  have : b ≠ D := fun z => by rw [z, h] at e; cases e
  rw [upd_ne this]; exact e
theorem valV_none {kvs : List (Key × V)} {k : Key} (h : k ∉ kvs.map (·.1)) : valV kvs k = none := by
  cases e : valV kvs k with
  | none => rfl
  | some v => exact absurd (valV_in e) h
theorem KvOk.snoc {H : Hp} : ∀ {kvs : List (Key × V)} {ks : KT} {p : Key × V} {q : Str × KI}, KvOk H kvs ks → kiAt H p q → KvOk H (kvs ++ [p]) (ks ++ [q])
  | [], [], _, _, _, h => ⟨h, True.intro⟩
  | _ :: _, _ :: _, _, _, ⟨h1, h2⟩, h => ⟨h1, KvOk.snoc h2 h⟩
  | [], _ :: _, _, _, h, _ => h.elim
  | _ :: _, [], _, _, h, _ => h.elim
/-- what the law tells of a pipe, its kinds with all their pairs -/
def ToldF (H : Hp) (v : V) (t : PI0) : Prop := ∃ a d kvs, v = .ref a ∧ H a = some (.tup [.int t.regs, .ref d, .bl t.ho, .bl t.od]) ∧ H d = some (.dK kvs) ∧ KvOk H kvs t.ks ∧ KtOk t.ks
theorem ToldF.told {H : Hp} {v : V} {t : PI0} (h : ToldF H v t) : ToldAt H v t := let ⟨a, d, kvs, h1, h2, h3, h4, _⟩ := h; ⟨a, d, h1, h2, kvs, .inl h3, h4⟩
theorem ToldF.same {H H' : Hp} {v : V} {t : PI0} (h : ToldF H v t) (s : Same H H') : ToldF H' v t := let ⟨a, d, kvs, h1, h2, h3, h4, h5⟩ := h; ⟨a, d, kvs, h1, s _ _ h2, s _ _ h3, h4.mono s.tups, h5⟩
section
variable {P : Program} {w : World} {K : PySem.W.Frag} {mg : Str → Option Value} {base : Heap} {C : Addr}
/-! ### _law_settings -/
def spSet (K : PySem.W.Frag) : Sp := fun vs H Q _ => ∃ (a : Addr) (ns : List Int) (n : Int), vs = [.ref a, .int n] ∧ SqL K H a (ns.map V.int) ∧ ns.length ≤ 63 ∧ 0 ≤ n ∧ n ≤ 1000 ∧ ∀ v H' t, Same H H' → ToldF H' v t → 1 ≤ t.regs → t.regs ≤ 2 → (∀ q ∈ t.ks, q.2.len ≤ 3) → Q v H'
theorem scSet : FnScope ["script", "at", "kinds", "turn", "spot", "length", "way"] ["script", "at"] (defScope sSet) := ⟨rfl, rfl, rfl, by decide +kernel, rfl, by decide +kernel, by decide +kernel⟩
abbrev nms : List Str := ["add", "put"]
theorem ok_set {f fD : Addr} {fd fdD : FuncData} (F : Fun K "_law_settings" "_law_settings" sSet f fd) (T : Txt K mg) (DD : Dfn P w K mg base "_law_draw" 1 ["script", "at", "many"] (spDraw K) fD fdD) : FnOk P w K mg base CX0 2 f fd ["script", "at"] (spSet K) := by
  refine F.ok scSet (fun vs H Q E h => ?_) (fun cdv A outer s H vs Q E hr h => ?_)
  · obtain ⟨a, ns, n, rfl, _⟩ := h
    rfl
  · obtain ⟨a, ns, n, rfl, hS, hlen, n0, n1, k⟩ := h
    have nd := scSet.nd
    have hu := hu_of hr
    refine ⟨_, pss_cons (ps_set (i := 2) nd rfl (.inl rfl) pe_dnewK)
      (pss_cons (ps_for PassesOwn.never rfl (pi_range1 rfl T.range (pa_cons (pe_op op_add pe_int (pcl DD hr (pa_cons (pv 0) (pa_cons (pv 1) (pa_cons pe_int pa_nil))))) pa_nil)) (pg_name (i := 3) nd rfl (.inl rfl))
        (pss_cons (ps_set (i := 4) nd rfl (.inl rfl) (pe_op op_add (pv 1) (pe_op op_mul pe_int (pv 3))))
        (pss_cons (ps_set (i := 5) nd rfl (.inl rfl) (pe_op op_add pe_int (pcl DD hr (pa_cons (pv 0) (pa_cons (pe_op op_add (pv 4) pe_int) (pa_cons pe_int pa_nil))))))
        (pss_cons (ps_set (i := 6) nd rfl (.inl rfl) (pcl DD hr (pa_cons (pv 0) (pa_cons (pe_op op_add (pv 4) pe_int) (pa_cons (pv 5) pa_nil)))))
        (pss_one (ps_dput hu (pv 2) (pe_ix ix_tup (ptup (pa_cons pe_str (pa_cons pe_str pa_nil))) (pv 3) (fun _ _ => rfl))
          (ptup (pa_cons (pcl DD hr (pa_cons (pv 0) (pa_cons (pe_op op_add (pv 4) pe_int) (pa_cons (pe_op op_sub pe_int (pv 3)) pa_nil)))) (pa_cons (pv 5) (pa_cons (pe_ifExp (pt_cmpR op_eq (pv 6) pe_int (nomark _)) pe_non (pv 6)) pa_nil)))) rfl))))))
      (pss_one (ps_ret (ptup (pa_cons (pe_op op_add pe_int (pcl DD hr (pa_cons (pv 0) (pa_cons (pe_op op_add (pv 1) pe_int) (pa_cons pe_int pa_nil))))) (pa_cons (pv 2)
        (pa_cons (pe_cmpR op_eq (pcl DD hr (pa_cons (pv 0) (pa_cons (pe_op op_add (pv 1) pe_int) (pa_cons pe_int pa_nil)))) pe_int (nomark _))
        (pa_cons (pe_cmpR op_eq (pcl DD hr (pa_cons (pv 0) (pa_cons (pe_op op_add (pv 1) pe_int) (pa_cons pe_int pa_nil)))) pe_int (nomark _)) pa_nil)))))))), ?_⟩
    intro D nD
    have s1 := same_upd (o := HO.dK []) nD
    refine ⟨_, rfl, _, rfl, a, ns, n, 2, rfl, s1.seq hS, hlen, n0, by omega, by omega, by omega, fun H2 r s2 r0 r1 => ?_⟩
    refine ⟨_, _, rfl, rfl, _, rfl, by omega, by omega, ?_⟩
    have s12 := s1.trans s2
    refine for_range (n := (1 + r).toNat) (fun j σ' H' => Same H H' ∧ (∃ v3 v4 v5 v6, σ' = [some (.ref a), some (.int n), some (.ref D), v3, v4, v5, v6]) ∧ ∃ kvs ks, H' D = some (.dK kvs) ∧ KvOk H' kvs ks ∧ ks.map (·.1) = nms.take j ∧ ∀ q ∈ ks, KiOk q.2 ∧ q.2.len ≤ 3)
      ⟨s12, ⟨none, none, none, none, rfl⟩, [], [], s2 _ _ upd_same, True.intro, rfl, fun q h => by cases h⟩ ?_ ?_
    · rintro j σ' H' hj ⟨s3, ⟨v3, v4, v5, v6, rfl⟩, kvs, ks, hD, hkv, hnm, hki⟩
      rw [Int.zero_add]
      have hj2 : j < 2 := by omega
      -- spot
      refine ⟨_, rfl, _, rfl, _, _, rfl, rfl, .inl ⟨by decide, by decide⟩, _, _, rfl, rfl, ?_⟩
      -- length
      refine ⟨_, rfl, _, rfl, _, _, rfl, rfl, a, ns, _, 3, rfl, s3.seq hS, hlen, by omega, by omega, by omega, by omega, fun H4 rl s4 l0 l1 => ?_⟩
      refine ⟨_, _, rfl, rfl, ?_⟩
      -- way
      have s34 := s3.trans s4
      refine ⟨_, rfl, _, rfl, _, _, rfl, rfl, _, rfl, a, ns, _, 1 + rl, rfl, s34.seq hS, hlen, by omega, by omega, by omega, by omega, fun H5 rw s5 w0 w1 => ?_⟩
      have s35 := s34.trans s5
      refine ⟨_, rfl, _, rfl, _, _, rfl, rfl, _, rfl, _, _, rfl, rfl, a, ns, _, 3 - (j : Int), rfl, s35.seq hS, hlen, by omega, by omega, by omega, by omega, fun H6 rs s6 q0 q1 => ?_⟩
      refine ⟨_, rfl, _, rfl, rfl, _, rfl, ?_⟩
      have s36 := s35.trans s6
      -- the kind's word
      have rest : ∀ (wy : Option Int), (∀ x, wy = some x → 1 ≤ x ∧ x < 1 + rl) →
          ∀ p7 H7, Same H6 H7 → H7 p7 = some (.tup [.int rs, .int (1 + rl), oV wy]) → ∀ p8 H8, Same H7 H8 → H8 p8 = some (.tup [.str "add", .str "put"]) → ∃ nm, atI [V.str "add", V.str "put"] (j : Int) = some (.str nm) ∧
            (Same H (upd H8 D (.dK (putK kvs (Sum.inr nm : Key) (.ref p7)))) ∧ ∃ kvs' ks', (upd H8 D (.dK (putK kvs (Sum.inr nm : Key) (.ref p7)))) D = some (.dK kvs') ∧ KvOk (upd H8 D (.dK (putK kvs (Sum.inr nm : Key) (.ref p7)))) kvs' ks' ∧
              ks'.map (·.1) = nms.take (j + 1) ∧ ∀ q ∈ ks', KiOk q.2 ∧ q.2.len ≤ 3) ∧ DPut H8 D (kV (Sum.inr nm : Key)) (.ref p7) (upd H8 D (.dK (putK kvs (Sum.inr nm : Key) (.ref p7)))) := by
        intro wy hwy p7 H7 s7 h7 p8 H8 s8 h8
        obtain ⟨nm, hnmj⟩ : ∃ nm, nms[j]? = some nm := by
          match j, hj2 with
          | 0, _ => exact ⟨_, rfl⟩
          | 1, _ => exact ⟨_, rfl⟩
        have hat : atI [V.str "add", V.str "put"] (j : Int) = some (.str nm) := by
          refine atI_nat ?_
          show (nms.map V.str)[j]? = _
          rw [List.getElem?_map, hnmj]; rfl
        have hD8 : H8 D = some (.dK kvs) := s8 _ _ (s7 _ _ (s6 _ _ (s5 _ _ (s4 _ _ hD))))
        have hkv8 : KvOk H8 kvs ks := hkv.mono ((((s4.trans s5).trans s6).trans s7).trans s8).tups
        have hkl : kvs.length ≤ 2 := by
          rw [hkv.len, ← List.length_map (as := ks) (·.1), hnm, List.length_take]; show min j 2 ≤ 2; omega
        have hnot : valV kvs (Sum.inr nm : Key) = none := by
          refine valV_none ?_
          rw [hkv.keys, hnm]
          intro z
          obtain ⟨y, hy, e⟩ := List.mem_map.mp z
          have ey : y = nm := Sum.inr.inj e
          rw [ey] at hy
          have hj01 : j = 0 ∨ j = 1 := by omega
          rcases hj01 with e | e
          · rw [e] at hy
            exact absurd hy (by simp)
          · rw [e] at hy hnmj
            have h1 : nm = "put" := (Option.some.inj hnmj).symm
            have h2 : nm = "add" := List.mem_singleton.mp hy
            exact names_ne (h2.symm.trans h1)
        refine ⟨nm, hat, ?_, DPut.k hD8 (szl (by omega))⟩
        have tp : Tups H8 (upd H8 D (.dK (putK kvs (Sum.inr nm : Key) (.ref p7)))) := tups_dk hD8
        refine ⟨((s36.trans s7).trans s8).mut nD, _, ks ++ [(nm, ⟨rs, 1 + rl, wy⟩)], upd_same, ?_, ?_, ?_⟩
        · have h9 : KvOk (upd H8 D (.dK (putK kvs (Sum.inr nm : Key) (.ref p7)))) (kvs ++ [((Sum.inr nm : Key), V.ref p7)]) (ks ++ [(nm, ⟨rs, 1 + rl, wy⟩)]) := KvOk.snoc (hkv8.mono tp) ⟨rfl, p7, rfl, tp _ _ (s8 _ _ h7)⟩
          rw [← putK_new _ hnot] at h9
          exact h9
        · rw [List.map_append, hnm, take_succ_at hnmj]; rfl
        · intro q hq
          rcases List.mem_append.mp hq with hq | hq
          · exact hki q hq
          · rw [List.mem_singleton] at hq
            subst hq
            exact ⟨⟨⟨q0, by show rs ≤ 2; omega⟩, ⟨by show 1 ≤ 1 + rl; omega, by show 1 + rl ≤ 4; omega⟩, hwy⟩, by show 1 + rl ≤ 3; omega⟩
      by_cases hz : rw = 0
      · rw [show decide (V.int rw = V.int 0) = true from decide_eq_true (congrArg V.int hz)]
        refine iteT ?_
        refine rd_t3 fun p7 H7 s7 h7 => ?_
        refine ⟨_, rfl, ?_⟩
        refine rd_t2 fun p8 H8 s8 h8 => ?_
        obtain ⟨nm, hat, hfin, hput⟩ := rest none (fun x h => by cases h) p7 H7 s7 h7 p8 H8 s8 h8
        exact ⟨_, rfl, p8, _, _, _, rfl, rfl, SqT.of h8, hat, D, _, rfl, hput, hfin.1, ⟨_, _, _, _, rfl⟩, hfin.2⟩
      · rw [show decide (V.int rw = V.int 0) = false from decide_eq_false fun z => hz (V.int.inj z)]
        refine iteF ⟨_, rfl, ?_⟩
        refine rd_t3 fun p7 H7 s7 h7 => ?_
        refine ⟨_, rfl, ?_⟩
        refine rd_t2 fun p8 H8 s8 h8 => ?_
        obtain ⟨nm, hat, hfin, hput⟩ := rest (some rw) (fun x h => by cases h; omega) p7 H7 s7 h7 p8 H8 s8 h8
        exact ⟨_, rfl, p8, _, _, _, rfl, rfl, SqT.of h8, hat, D, _, rfl, hput, hfin.1, ⟨_, _, _, _, rfl⟩, hfin.2⟩
    · rintro σ' H' ⟨s3, ⟨v3, v4, v5, v6, rfl⟩, kvs, ks, hD, hkv, hnm, hki⟩
      refine ⟨_, rfl, _, rfl, _, _, rfl, rfl, a, ns, _, 2, rfl, s3.seq hS, hlen, by omega, by omega, by omega, by omega, fun H4 q1 s4 a0 a1 => ?_⟩
      have s34 := s3.trans s4
      refine ⟨_, _, rfl, rfl, _, rfl, _, rfl, _, rfl, _, _, rfl, rfl, a, ns, _, 2, rfl, s34.seq hS, hlen, by omega, by omega, by omega, by omega, fun H5 q2 s5 b0 b1 => ?_⟩
      have s35 := s34.trans s5
      refine ⟨rfl, _, rfl, _, rfl, _, _, rfl, rfl, a, ns, _, 2, rfl, s35.seq hS, hlen, by omega, by omega, by omega, by omega, fun H6 q3 s6 c0 c1 => ?_⟩
      refine ⟨rfl, ?_⟩
      refine rd_t4 fun p7 H7 s7 h7 => ?_
      have s47 := ((s4.trans s5).trans s6).trans s7
      refine k _ H7 ⟨1 + q1, ks, decide (V.int q2 = V.int 0), decide (V.int q3 = V.int 0)⟩ (s3.trans s47) ⟨p7, D, kvs, rfl, h7, s47 _ _ hD, hkv.mono s47.tups, ?_, fun q hq => (hki q hq).1⟩ (by show 1 ≤ 1 + q1; omega) (by show 1 + q1 ≤ 2; omega) (fun q hq => (hki q hq).2)
      have hr2 : (1 + r).toNat = 1 ∨ (1 + r).toNat = 2 := by omega
      rcases hr2 with e | e <;> rw [e] at hnm
      · exact .inl hnm
      · exact .inr hnm
end
end K3
namespace K3
open PySem PySem.Spec PyProof.Rows L2
def tTupN (t : TA) : TE := fun σ H Q => t σ H fun xs H1 => rTup xs H1 Q
theorem ptupN {X : Cx} {es : List Expr} {t : TA} {x1 : Nat} {pos : Pos} (h : PA X es t) : PE X (.Tuple es x1 pos) (tTupN t) := ptup h
theorem atI_mid {α : Type} {xs : List α} {i : Int} {j : Nat} {v : α} (e : i = (j : Int)) (h : xs[j]? = some v) : atI xs i = some v := by rw [e]; exact atI_nat h
def SrcAt (H : Hp) (v : V) (s : List Int) : Prop := ∃ a, v = .ref a ∧ H a = some (.tup (s.map V.int))
theorem SrcAt.mono {H H' : Hp} (t : Tups H H') {v : V} {s : List Int} (h : SrcAt H v s) : SrcAt H' v s := let ⟨a, h1, h2⟩ := h; ⟨a, h1, t _ _ h2⟩
theorem InAt.mk {H : Hp} {v : V} {s : List Int} {p : Addr} {kd : Str} {g : Int} (h : SrcAt H v s) (hp : H p = some (.tup [.str kd, .int g, v])) : InAt H (.ref p) ⟨kd, g, s⟩ := by
  obtain ⟨b, rfl, hb⟩ := h
  exact ⟨p, b, rfl, hp, hb⟩
structure SrcOk (n : Int) (m : Nat) (s : List Int) : Prop where
  r : ∀ x ∈ s, 0 ≤ x ∧ x < n
  l : s.length ≤ m
section
variable {P : Program} {w : World} {K : PySem.W.Frag} {mg : Str → Option Value} {base : Heap} {C : Addr}
/-! ### _law_pipe -/
def spPipe (P : Program) (w : World) (C : Addr) : Sp := fun vs H Q _ => ∃ (v : V) (t : PI0), vs = [v] ∧ ToldF H v t ∧ 1 ≤ t.regs ∧ t.regs ≤ 4 ∧ ∀ H' p kdA c, Same H H' → PipeAt C H' p kdA c t → KdAt H' kdA t.ks → CacheAt P w t.ks H' c [] → Q (.ref p) H'
theorem scPipe : FnScope ["told"] ["told"] (defScope sPipe) := ⟨rfl, rfl, rfl, by decide +kernel, rfl, by decide +kernel, by decide +kernel⟩
theorem ok_pipe {f fI : Addr} {fd fdI : FuncData} (F : Fun K "_law_pipe" "_law_pipe" sPipe f fd) (TC : TxtC K mg C) (M : Mk K C fI) (FI : FnOk P w K mg base CX0 4 fI fdI ["self", "registers", "kinds", "holds", "orders"] (spInit P w C))
    (bI : KBn K fdI ["self", "registers", "kinds", "holds", "orders"] 3 ["holds", "orders"] (fun us ws => us ++ ws) (fun vs zs => vs ++ zs)) : FnOk P w K mg base CX0 6 f fd ["told"] (spPipe P w C) := by
  refine F.ok scPipe (fun vs H Q E h => ?_) (fun cdv A outer s H vs Q E hr h => ?_)
  · obtain ⟨v, t, rfl, _⟩ := h
    rfl
  · obtain ⟨v, t, rfl, ⟨a, d, kvs, rfl, ha, hd, hkv, kok⟩, r1, r4, k⟩ := h
    refine ⟨_, pss_one (ps_ret (pe_makeK (n := 2) M FI hr (by rfl) TC.mgC bI pass0 (pa_cons (pe_ix ix_tup (pv 0) pe_int (fun _ _ => rfl)) (pa_cons (pe_ix ix_tup (pv 0) pe_int (fun _ _ => rfl)) pa_nil))
      (pk_cons (pe_ix ix_tup (pv 0) pe_int (fun _ _ => rfl)) (pk_cons (pe_ix ix_tup (pv 0) pe_int (fun _ _ => rfl)) pk_nil)))), ?_⟩
    refine ⟨_, rfl, a, _, 0, _, rfl, rfl, SqT.of ha, rfl, _, rfl, a, _, 1, _, rfl, rfl, SqT.of ha, rfl, _, rfl, a, _, 2, _, rfl, rfl, SqT.of ha, rfl, _, rfl, a, _, 3, _, rfl, rfl, SqT.of ha, rfl, rfl, rfl, fun x dx nx ndx nex => ?_⟩
    have s1 : Same H (upd (upd H dx (.own x)) x (.ins C dx [])) := fun b o e => by
      rw [upd_ne (ne_of_none e nx), upd_ne (ne_of_none e ndx)]; exact e
    refine ⟨x, dx, d, t, kvs, rfl, upd_same, r1, r4, s1 _ _ hd, hkv.mono s1.tups, kok, fun H' kdA c bt hp hk hc => ⟨rfl, ?_⟩⟩
    exact k H' x kdA c (fun b o e => bt b o (ne_of_none e nx) (s1 b o e)) hp hk hc
theorem find_at {ks : KT} : ∀ {j : Nat} {q : Str × KI}, (ks.map (·.1)).Nodup → ks[j]? = some q → find ks q.1 = some q.2 := by
  induction ks with
  | nil => intro j q _ h; simp at h
  | cons p ks ih =>
    intro j q nd h
    rw [List.map_cons, List.nodup_cons] at nd
    cases j with
    | zero =>
      simp at h; subst h
      unfold find
      simp
    | succ j =>
      have h' : ks[j]? = some q := by simpa using h
      have hm : q.1 ∈ ks.map (·.1) := List.mem_map.mpr ⟨q, List.mem_of_getElem? h', rfl⟩
      have := ih nd.2 h'
      unfold find at this ⊢
      rwa [List.find?_cons_of_neg (by
        have : ¬ p.1 = q.1 := fun e => nd.1 (by rw [e]; exact hm)
        rw [decide_eq_false this]; exact Bool.false_ne_true)]
theorem keys_str {H : Hp} {kvs : List (Key × V)} {ks : KT} (h : KvOk H kvs ks) : (kvs.map fun kv => kV kv.1) = (ks.map (·.1)).map V.str := by
  have : (kvs.map fun kv => kV kv.1) = (kvs.map (·.1)).map kV := by rw [List.map_map]; rfl
  rw [this, h.keys, List.map_map]; rfl
theorem tups_lst' {H : Hp} {D : Addr} {acc : List V} {o : HO} (h : H D = some (.lst acc)) : Tups H (upd H D o) := tups_lst h
/-! ### _law_rows -/
def spRows : Sp := fun vs H Q _ => ∃ (v : V) (t : PI0), vs = [v] ∧ ToldF H v t ∧ 1 ≤ t.regs ∧ t.regs ≤ 2 ∧ ∀ H' D xs ins, Same H H' → H' D = some (.lst xs) → Al (InAt H') xs ins → ins ≠ [] → ins.length ≤ 1000 → (∀ i ∈ ins, InOk t.ks t.regs.toNat i) → Q (.ref D) H'
abbrev nRows : List Str := ["told", "found", "kind", "sources", "turn", "late", "row", "goal", "one"]
theorem scRows : FnScope nRows ["told"] (defScope sRows) := ⟨rfl, rfl, rfl, by decide +kernel, rfl, by decide +kernel, by decide +kernel⟩
theorem ok_rows {f : Addr} {fd : FuncData} (F : Fun K "_law_rows" "_law_rows" sRows f fd) (T : Txt K mg) : FnOk P w K mg base CX0 1 f fd ["told"] spRows := by
  refine F.ok scRows (fun vs H Q E h => ?_) (fun cdv A outer s H vs Q E hr h => ?_)
  · obtain ⟨v, t, rfl, _⟩ := h
    rfl
  · obtain ⟨v, t, rfl, ⟨a, d, kvs, rfl, ha, hd, hkv, kok⟩, r1, r2, k⟩ := h
    have hu := hu_of hr
    have nd := scRows.nd
    refine ⟨_, pss_cons (ps_set (i := 1) nd rfl (.inl rfl) (plst pa_nil))
      (pss_cons (ps_for PassesOwn.never rfl (pi_list (pe_callB cr_sortedS (by rfl) T.sorted (by decide +kernel) (pa_cons (pe_callTy (call_listD rfl) (by rfl) T.list (by decide +kernel) (pa_cons (pe_ix ix_tup (pv 0) pe_int (fun _ _ => rfl)) pa_nil)) pa_nil))) (pg_name (i := 2) nd rfl (.inr rfl))
        (pss_cons (ps_set (i := 3) nd rfl (.inl rfl) (plst (pa_cons (ptup pa_nil) pa_nil)))
        (pss_cons (ps_for PassesOwn.never rfl (pi_range1 rfl T.range (pa_cons (pe_ix ix_tup (pe_dget hu (pe_ix ix_tup (pv 0) pe_int (fun _ _ => rfl)) (pv 2) (fun _ _ => rfl)) pe_int (fun _ _ => rfl)) pa_nil)) (pg_name (i := 4) nd rfl (.inl rfl))
          (pss_cons (ps_set (i := 5) nd rfl (.inl rfl) (plst pa_nil))
          (pss_cons (ps_for PassesOwn.never rfl (pi_list (pv 3)) (pg_name (i := 6) nd rfl (.inr rfl))
            (pss_one (ps_set (i := 5) nd rfl (.inl rfl) (pe_op op_cat (pv 5)
              (pe_lc (own := [("one", 8)]) (g := gName 8) (by rfl) nd (pi_range1 rfl T.range (pa_cons (pe_ix ix_tup (pv 0) pe_int (fun _ _ => rfl)) pa_nil)) (blkOk_by (N := nRows) (sc := defScope sRows) (by decide +kernel))
                (fun _ _ _ _ _ => pg_name (i := 8) nd rfl (.inl rfl)) (fun _ _ _ _ _ => pts_nil) (fun _ _ _ _ _ => pe_op (catT K) (pv 6) (ptup (pa_cons (pv 8) pa_nil))))))))
          (pss_one (ps_set (i := 3) nd rfl (.inl rfl) (pv 5))))))
        (pss_one (ps_for PassesOwn.never rfl (pi_range2 (by rfl) T.range (pa_cons (pe_un un_neg pe_int) (pa_cons (pe_ix ix_tup (pv 0) pe_int (fun _ _ => rfl)) pa_nil))) (pg_name (i := 7) nd rfl (.inr rfl))
          (pss_one (ps_set (i := 1) nd rfl (.inl rfl) (pe_op op_cat (pv 1)
            (pe_lc (own := [("row", 6)]) (g := gName 6) (by rfl) nd (pi_list (pv 3)) (blkOk_by (N := nRows) (sc := defScope sRows) (by decide +kernel))
                (fun _ _ _ _ _ => pg_name (i := 6) nd rfl (.inl rfl)) (fun _ _ _ _ _ => pts_nil) (fun _ _ _ _ _ => ptupN (pa_cons (pv 2) (pa_cons (pv 7) (pa_cons (pv 6) pa_nil))))))))))))
      )
      (pss_one (ps_ret (pv 1)))), ?_⟩
    refine rd_l0 fun F0 H0 nF0 s0 hF0 => ?_
    have ha0 := s0 _ _ ha
    have hd0 := s0 _ _ hd
    have kndp : (kvs.map (·.1)).Nodup := by rw [hkv.keys]; exact inr_nodup kok.nodup
    have hkl := kok.len
    refine ⟨_, rfl, a, _, 1, _, rfl, rfl, SqT.of ha0, rfl, d, kvs, rfl, .inl hd0, fun p1 n1 => ?_⟩
    rw [keys_str hkv]
    have s1 := same_upd (o := HO.lst ((t.ks.map (·.1)).map V.str)) n1
    refine ⟨p1, t.ks.map (·.1), rfl, SqL.of upd_same, by rw [List.length_map]; omega, fun ys q perm srt nq => ?_⟩
    have eys := sort_names kok perm srt
    subst eys
    have s2 := same_upd (o := HO.lst ((t.ks.map (·.1)).map V.str)) nq
    have s02 := (s0.trans s1).trans s2
    let σ0 : Addr → Option V → Option V → Option V → Option V → Option V → Option V → Option V → L2.St := fun F v2 v3 v4 v5 v6 v7 v8 => [some (.ref a), some (.ref F), v2, v3, v4, v5, v6, v7, v8]
    let Fd : Hp → Addr → List Ins → Prop := fun H' F ins => ∃ xs, H' F = some (.lst xs) ∧ Al (InAt H') xs ins ∧ ∀ i ∈ ins, InOk t.ks t.regs.toNat i
    have fdm : ∀ {H1 H2 : Hp} {F ins}, Same H1 H2 → Fd H1 F ins → Fd H2 F ins := fun s ⟨xs, h1, h2, h3⟩ => ⟨xs, s _ _ h1, h2.mono fun _ _ => InAt.mono s.tups, h3⟩
    refine ⟨q, rfl, ⟨_, SqL.of upd_same⟩, for_list (K := K) (xs := (t.ks.map (·.1)).map V.str) (fun j σ' H' => Same H H' ∧ H' q = some (.lst ((t.ks.map (·.1)).map V.str)) ∧ ∃ F ins, (∃ v2 v3 v4 v5 v6 v7 v8, σ' = σ0 F v2 v3 v4 v5 v6 v7 v8) ∧ Fd H' F ins ∧ ins.length ≤ 100 * j ∧ (0 < j → ins ≠ []))
      ⟨s02, upd_same, F0, [], ⟨none, none, none, none, none, none, none, rfl⟩, ⟨[], s2 _ _ (s1 _ _ hF0), Al.nil, fun i h => by cases h⟩, Nat.le_refl _, fun h => absurd h (by decide)⟩ (fun j σ' H' _ hh => SqL.of hh.2.1) ?_ ?_⟩
    · rintro j y σ' H3 hj ⟨s3, hq3, F, ins, ⟨v2, v3, v4, v5, v6, v7, v8, rfl⟩, hF, hil, hin0⟩
      obtain ⟨nm, hnm, rfl⟩ := map_at hj
      rw [List.getElem?_map] at hnm
      obtain ⟨kq, hkq, rfl⟩ := Option.map_eq_some_iff.mp hnm
      have hkqm := List.mem_of_getElem? hkq
      have kiok := kok.ok _ hkqm
      have hjl : j < kvs.length := by
        have := (List.getElem?_eq_some_iff.mp hkq).1
        rw [hkv.len]; exact this
      have hj2 : j < 2 := by have := hkv.len; omega
      have hkj : kvs[j]? = some kvs[j] := List.getElem?_eq_getElem hjl
      obtain ⟨kq', hkq', e1, ta, e2, hta⟩ := hkv.at hkj
      rw [hkq] at hkq'
      cases hkq'
      have ekv : kvs[j]? = some (Sum.inr kq.1, .ref ta) := by rw [hkj, ← e1, ← e2]
      have kn : Kn t.ks kq.1 := ⟨kq.2, find_at kok.nodup hkq⟩
      -- sources = [()]
      refine rd_t0 fun p4 H4 s4 h4 => rd_l1 fun S5 H5 n5 s5 h5 => ?_
      have s35 := s4.trans s5
      have s05 := s3.trans s35
      refine ⟨_, rfl, a, _, 1, _, rfl, rfl, SqT.of (s05 _ _ ha), rfl, _, rfl, d, .ref ta, rfl, ?_, ta, _, 0, _, rfl, rfl, SqT.of (s05 _ _ hta), rfl, kq.2.srcs, rfl, by have := kiok.s; omega, by have := kiok.s; omega, ?_⟩
      · rw [← valV_at kndp ekv]
        exact .inl ⟨kvs, Sum.inr kq.1, .inl (s05 _ _ hd), rfl, rfl⟩
      refine for_range (n := kq.2.srcs.toNat) (fun i σ' H' => Same H5 H' ∧ ∃ S sx ss, (∃ v4 v5 v6 v7 v8, σ' = σ0 F (some (.str kq.1)) (some (.ref S)) v4 v5 v6 v7 v8) ∧ H' S = some (.lst sx) ∧ Al (SrcAt H') sx ss ∧ ss ≠ [] ∧ ss.length ≤ 2 ^ i ∧ ∀ s ∈ ss, SrcOk t.regs i s)
        ⟨Same.refl _, S5, _, [[]], ⟨v4, v5, v6, v7, v8, rfl⟩, h5, Al.one ⟨p4, rfl, s5 _ _ h4⟩, by simp, by decide, fun s hs => by rw [List.mem_singleton] at hs; subst hs; exact ⟨(fun x h => by cases h), Nat.le_refl _⟩⟩ ?_ ?_
      · rintro i σ' H6 hi ⟨s6, S, sx, ss, ⟨v4, v5, v6, v7, v8, rfl⟩, hS, hsal, hsne, hsl, hsok⟩
        have hi2 : i < 2 := by have := kiok.s; omega
        have hsl2 : ss.length ≤ 2 := by
          refine Nat.le_trans hsl ?_
          have : i = 0 ∨ i = 1 := by omega
          rcases this with e | e <;> rw [e] <;> decide
        -- late = []
        refine rd_l0 fun L7 H7 n7 s7 h7 => ?_
        have hS7 := s7 _ _ hS
        refine ⟨_, rfl, S, rfl, ⟨_, SqL.of hS7⟩, for_list (K := K) (xs := sx) (fun i' σ' H' => Same H7 H' ∧ ∃ L lx ls, (∃ v6 v8, σ' = σ0 F (some (.str kq.1)) (some (.ref S)) (some (.int (0 + (i : Int)))) (some (.ref L)) v6 v7 v8) ∧ H' L = some (.lst lx) ∧ Al (SrcAt H') lx ls ∧ ls.length = t.regs.toNat * i' ∧ ∀ s ∈ ls, SrcOk t.regs (i + 1) s)
          ⟨Same.refl _, L7, _, [], ⟨_, _, rfl⟩, h7, Al.nil, by simp, fun s hs => by cases hs⟩ (fun i' σ' H' _ hh => SqL.of (hh.1 _ _ hS7)) ?_ ?_⟩
        · rintro i' y' σ' H8 hi' ⟨s8, L, lx, ls, ⟨v6, v8, rfl⟩, hL, hlal, hll, hlok⟩
          obtain ⟨s', hs', rw', rfl, hrw⟩ := hsal.at hi'
          have hi'2 : i' < 2 := by
            have := (List.getElem?_eq_some_iff.mp hs').1
            omega
          have sok := hsok s' (List.mem_of_getElem? hs')
          have hrw8 := s8 _ _ (s7 _ _ hrw)
          have s58 := (s6.trans s7).trans s8
          have s08 := s05.trans s58
          refine ⟨_, rfl, ?_⟩
          refine ⟨_, rfl, a, _, 0, _, rfl, rfl, SqT.of (s08 _ _ ha), rfl, t.regs, rfl, by omega, by omega, fun D nD => ?_⟩
          refine lc_it (walk_range (lo := 0) (n := t.regs.toNat)) (fun m H' => Same H8 H' ∧ ∃ acc, H' D = some (.lst acc) ∧ Al (SrcAt H') acc ((List.range m).map fun (o : Nat) => s' ++ [(o : Int)]))
            ⟨same_upd nD, [], upd_same, Al.nil⟩ (fun m H' _ hh => True.intro) ?_ ?_
          · rintro m y'' H9 H9' hm ⟨s9, acc, hD, hacc⟩ ⟨rfl, rfl⟩
            refine ⟨rfl, ?_⟩
            refine ⟨_, rfl, _, rfl, ?_⟩
            refine rd_t1 fun p10 H10 s10 h10 => ?_
            refine rd_cat (s10 _ _ (s9 _ _ hrw8)) h10 (by have := sok.l; rw [List.length_map]; show s'.length + 1 ≤ 100000; omega) fun p11 H11 s11 h11 => ?_
            have s911 := s10.trans s11
            have hD11 := s911 _ _ hD
            have tp : Tups H11 (upd H11 D (.lst (acc ++ [.ref p11]))) := tups_lst hD11
            have hal : acc.length = m := by rw [hacc.1]; simp
            refine ⟨acc, hD11, szl (by omega), (s9.trans s911).mut nD, acc ++ [.ref p11], upd_same, ?_⟩
            rw [List.range_succ, List.map_append]
            refine Al.snoc (hacc.mono fun _ _ z => SrcAt.mono tp (SrcAt.mono s911.tups z)) ⟨p11, rfl, tp _ _ ?_⟩
            rw [h11]
            show some (HO.tup (s'.map V.int ++ [V.int (0 + (m : Int))])) = some (HO.tup ((s' ++ [(m : Int)]).map V.int))
            rw [Int.zero_add, List.map_append]; rfl
          · rintro H9 ⟨s9, acc, hD, hacc⟩
            have hacl : acc.length = t.regs.toNat := by rw [hacc.1]; simp
            have hlxl : lx.length = t.regs.toNat * i' := by rw [hlal.1, hll]
            have hb : t.regs.toNat * i' ≤ 2 * 2 := Nat.mul_le_mul (by omega) (by omega)
            refine ⟨L, D, lx, acc, rfl, rfl, s9 _ _ hL, hD, sz (by omega), fun p12 n12 => ?_⟩
            have s12 := same_upd (o := HO.lst (lx ++ acc)) n12
            refine ⟨(s8.trans s9).trans s12, p12, _, ls ++ (List.range t.regs.toNat).map (fun (o : Nat) => s' ++ [(o : Int)]), ⟨_, _, rfl⟩, upd_same, ?_, ?_, fun s hs => ?_⟩
            · exact Al.append (hlal.mono fun _ _ => SrcAt.mono (s9.trans s12).tups) (hacc.mono fun _ _ => SrcAt.mono s12.tups)
            · rw [List.length_append, hll, List.length_map, List.length_range, Nat.mul_succ]
            · rcases List.mem_append.mp hs with hs | hs
              · exact hlok s hs
              · obtain ⟨o, ho, rfl⟩ := List.mem_map.mp hs
                have ho' := List.mem_range.mp ho
                refine ⟨fun x hx => ?_, by rw [List.length_append]; have := sok.l; show s'.length + 1 ≤ i + 1; omega⟩
                rcases List.mem_append.mp hx with hx | hx
                · exact sok.r x hx
                · rw [List.mem_singleton] at hx; subst hx; omega
        · rintro σ' H8 ⟨s8, L, lx, ls, ⟨v6, v8, rfl⟩, hL, hlal, hll, hlok⟩
          have hssl : sx.length = ss.length := hsal.1
          have hpos : 0 < ss.length := List.length_pos_iff.mpr hsne
          refine ⟨_, rfl, (s6.trans s7).trans s8, L, lx, ls, ⟨_, _, _, _, _, rfl⟩, hL, hlal, ?_, ?_, hlok⟩
          · rw [hssl] at hll
            refine List.length_pos_iff.mp ?_
            rw [hll]
            exact Nat.mul_pos (by omega) hpos
          · rw [hll, hssl, Nat.pow_succ, Nat.mul_comm]
            exact Nat.mul_le_mul hsl (by omega)
      · rintro σ' H6 ⟨s6, S, sx, ss, ⟨v4, v5, v6, v7, v8, rfl⟩, hS, hsal, hsne, hsl, hsok⟩
        have hsl4 : ss.length ≤ 4 := by
          refine Nat.le_trans hsl ?_
          have : kq.2.srcs.toNat = 0 ∨ kq.2.srcs.toNat = 1 ∨ kq.2.srcs.toNat = 2 := by have := kiok.s; omega
          rcases this with e | e | e <;> rw [e] <;> decide
        have hpos : 0 < ss.length := List.length_pos_iff.mpr hsne
        have s06 := s05.trans s6
        have hF6 := fdm (s35.trans s6) hF
        refine ⟨_, rfl, _, rfl, a, _, 0, _, rfl, rfl, SqT.of (s06 _ _ ha), rfl, -1, t.regs, rfl, ⟨by decide, by decide, by omega, by omega⟩, ?_⟩
        refine for_range (lo := -1) (n := (t.regs - (-1)).toNat) (fun i σ' H' => Same H6 H' ∧ ∃ F' ins', (∃ v6 v7 v8, σ' = σ0 F' (some (.str kq.1)) (some (.ref S)) v4 v5 v6 v7 v8) ∧ Fd H' F' ins' ∧ ins'.length ≤ 100 * j + 4 * i ∧ (0 < i → ins' ≠ []))
          ⟨Same.refl _, F, ins, ⟨_, _, _, rfl⟩, hF6, by omega, fun h => absurd h (by decide)⟩ ?_ ?_
        · rintro i σ' H7 hi ⟨s7, F', ins', ⟨v6, v7, v8, rfl⟩, ⟨fx, hF', hfal, hfok⟩, hfl, hfn⟩
          have hS7 := s7 _ _ hS
          refine ⟨_, rfl, ?_⟩
          refine ⟨_, rfl, S, rfl, ⟨_, SqL.of hS7⟩, fun D nD => ?_⟩
          refine lc_list (K := K) (xs := sx) (fun m H' => Same H7 H' ∧ ∃ acc, H' D = some (.lst acc) ∧ Al (InAt H') acc ((ss.take m).map fun s => (⟨kq.1, -1 + (i : Int), s⟩ : Ins)))
            ⟨same_upd nD, [], upd_same, Al.nil⟩ (fun m H' _ hh => SqL.of (hh.1 _ _ hS7)) ?_ ?_
          · rintro m y'' H8 hm ⟨s8, acc, hD, hacc⟩
            obtain ⟨s', hs', hx⟩ := hsal.at hm
            have hx8 := hx.mono (s7.trans s8).tups
            refine ⟨rfl, ?_⟩
            refine ⟨_, rfl, _, rfl, _, rfl, ?_⟩
            refine rd_t3 fun p9 H9 s9 h9 => ?_
            have hD9 := s9 _ _ hD
            have tp : Tups H9 (upd H9 D (.lst (acc ++ [.ref p9]))) := tups_lst hD9
            have hal : acc.length = m := by rw [hacc.1, List.length_map, take_len_at hs']
            have hml : m < ss.length := (List.getElem?_eq_some_iff.mp hs').1
            refine ⟨acc, hD9, szl (by omega), (s8.trans s9).mut nD, acc ++ [.ref p9], upd_same, ?_⟩
            rw [map_take_succ hs']
            exact Al.snoc (hacc.mono fun _ _ z => InAt.mono tp (InAt.mono s9.tups z)) (InAt.mk (hx8.mono fun b xs e => tp _ _ (s9 _ _ e)) (tp _ _ h9))
          · rintro H8 ⟨s8, acc, hD, hacc⟩
            rw [hsal.1, List.take_length] at hacc
            have hi3 : i < 3 := by omega
            have hfxl : fx.length ≤ 100 * j + 4 * i := by rw [hfal.1]; exact hfl
            have hacl : acc.length = ss.length := by rw [hacc.1, List.length_map]
            refine ⟨F', D, fx, acc, rfl, rfl, s8 _ _ hF', hD, sz (by omega), fun p12 n12 => ?_⟩
            have s12 := same_upd (o := HO.lst (fx ++ acc)) n12
            refine ⟨(s7.trans s8).trans s12, p12, ins' ++ ss.map (fun s => (⟨kq.1, -1 + (i : Int), s⟩ : Ins)), ⟨_, _, _, rfl⟩, ⟨_, upd_same, ?_, fun x hx => ?_⟩, ?_, fun _ z => ?_⟩
            · exact Al.append (hfal.mono fun _ _ => InAt.mono (s8.trans s12).tups) (hacc.mono fun _ _ => InAt.mono s12.tups)
            · rcases List.mem_append.mp hx with hx | hx
              · exact hfok x hx
              · obtain ⟨s', hs', rfl⟩ := List.mem_map.mp hx
                have sok := hsok s' hs'
                exact ⟨kn, ⟨by show -1 ≤ -1 + (i : Int); omega, by show -1 + (i : Int) < _; omega⟩, fun x hx => ⟨(sok.r x hx).1, by have := (sok.r x hx).2; omega⟩, by have := sok.l; have := kiok.s; show s'.length ≤ 1000; omega⟩
            · rw [List.length_append, List.length_map]; omega
            · have := List.append_eq_nil_iff.mp z
              have h2 := List.map_eq_nil_iff.mp this.2
              exact hsne h2
        · rintro σ' H7 ⟨s7, F', ins', ⟨v6, v7, v8, rfl⟩, hF7, hfl, hfn⟩
          refine ⟨s06.trans s7, (s35.trans (s6.trans s7)) _ _ hq3, F', ins', ⟨_, _, _, _, _, _, _, rfl⟩, hF7, ?_, fun _ => hfn (by omega)⟩
          have : (t.regs - (-1)).toNat ≤ 3 := by omega
          rw [Nat.mul_succ]; omega
    · rintro σ' H3 ⟨s3, hq3, F, ins, ⟨v2, v3, v4, v5, v6, v7, v8, rfl⟩, ⟨xs, hF, hal, hok⟩, hil, hin0⟩
      rw [List.length_map, List.length_map] at hil hin0
      exact ⟨_, rfl, k H3 F xs ins s3 hF hal (hin0 (by omega)) (by omega) hok⟩
end
end K3
namespace K3
open PySem PySem.Spec PyProof.Rows L2
theorem lenK {X : Cx} (K : PySem.W.Frag) (h : X.K = K := by rfl) : CallR X (.builtin "len") (fun xs H Q => ∃ p ys, xs = [.ref p] ∧ (SqL K H p ys ∨ SqT K H p ys) ∧ Q (.int ys.length) H) := h ▸ call_len_seq
/-! ### standings as data -/
def dE (e : E) : PyData := .tuple [.str e.1, .int e.2]
def dR (r : List E) : PyData := .tuple (r.map dE)
def dS (st : List (List E)) : PyData := .tuple (st.map dR)
theorem dpall_of {K : PySem.W.Frag} {H : Hp} {α : Type} {R : V → α → Prop} {g : α → PyData} (f : ∀ x d, R x d → Dp K H x (g d)) : ∀ {xs : List V} {ds : List α}, Al R xs ds → DpAll K H xs (ds.map g)
  | [], [], _ => .nil
  | x :: xs, d :: ds, h => .cons (f x d (h.2 0 x d rfl rfl)) (dpall_of f ⟨by have := h.1; simp at this; exact this, fun i y e hy he => h.2 (i + 1) y e (by simpa using hy) (by simpa using he)⟩)
  | [], _ :: _, h => by have := h.1; simp at this
  | _ :: _, [], h => by have := h.1; simp at this
theorem dp_row {K : PySem.W.Frag} {H : Hp} {v : V} {r : List E} (h : EnsAt H v r) : Dp K H v (dR r) := by
  obtain ⟨a, xs, rfl, ha, hal⟩ := h
  exact .tup (SqT.of ha) (dpall_of (g := dE) (fun _ _ h => dp_pair' h) hal)
theorem dp_st {K : PySem.W.Frag} {H : Hp} {v : V} {st : List (List E)} (h : StAt H v st) : Dp K H v (dS st) := by
  obtain ⟨a, xs, rfl, ha, hal⟩ := h
  exact .tup (SqT.of ha) (dpall_of (g := dR) (fun _ _ h => dp_row h) hal)
theorem layAll {α : Type} {g : α → PyData} : ∀ {ds : List α}, (∀ d ∈ ds, (g d).canLay0 = true) → PyData.canLayAll0 (ds.map g) = true
  | [], _ => rfl
  | d :: ds, h => by
    rw [List.map_cons]; unfold PyData.canLayAll0
    rw [h d List.mem_cons_self, layAll fun x hx => h x (List.mem_cons_of_mem _ hx)]; rfl
theorem depAll {α : Type} {g : α → PyData} {m : Nat} : ∀ {ds : List α}, (∀ d ∈ ds, (g d).depth ≤ m) → PyData.depthAll (ds.map g) ≤ m
  | [], _ => Nat.zero_le _
  | d :: ds, h => by
    rw [List.map_cons]; unfold PyData.depthAll
    have h1 := h d List.mem_cons_self
    have h2 := depAll (g := g) (m := m) (ds := ds) fun x hx => h x (List.mem_cons_of_mem _ hx)
    omega
theorem shaped_st {st : List (List E)} (h : ∀ r ∈ st, ∀ e ∈ r, PyData.strOk e.1 = true) : SeqAt.shaped (dS st) = true := by
  have hE : ∀ e : E, PyData.strOk e.1 = true → (dE e).canLay0 = true := fun e he => by
    unfold dE PyData.canLay0 PyData.canLayAll0
    unfold PyData.canLay0 PyData.canLayAll0
    unfold PyData.canLay0 PyData.canLayAll0
    rw [he]; rfl
  have dE1 : ∀ e : E, (dE e).depth ≤ 1 := fun e => Nat.le_refl _
  have hR : ∀ r ∈ st, (dR r).canLay0 = true := fun r hr => by
    unfold dR PyData.canLay0
    exact layAll fun e he => hE e (h r hr e he)
  have dR1 : ∀ r ∈ st, (dR r).depth ≤ 2 := fun r _ => by
    unfold dR PyData.depth
    have := depAll (g := dE) (m := 1) (ds := r) fun e _ => dE1 e
    omega
  have hS : (dS st).canLay0 = true := by
    unfold dS PyData.canLay0
    exact layAll hR
  have dS1 : (dS st).depth ≤ 3 := by
    unfold dS PyData.depth
    have := depAll (g := dR) (m := 2) (ds := st) dR1
    omega
  unfold SeqAt.shaped
  rw [hS, Bool.true_and]
  exact decide_eq_true (by omega)
theorem dp_two {K : PySem.W.Frag} {H : Hp} {a : Addr} {i : Int} {b : Bool} (h : H a = some (.tup [.int i, .bl b])) : Dp K H (.ref a) (.tuple [.int i, .bool b]) :=
  .tup (SqT.of h) (.cons (.int i) (.cons (.bl b) .nil))
/-! ### the law's words and the program's -/
theorem byGoal_len (n : Nat) (ws : List W) : (byGoal n ws).length = n := by unfold byGoal; simp
theorem lsAt_by {n : Nat} {ws : List W} {g : Int} (h0 : 0 ≤ g) (h1 : g < n) : lsAt (byGoal n ws) g = near ws g := by
  obtain ⟨m, rfl⟩ := Int.eq_ofNat_of_zero_le h0
  have hm : m < n := by omega
  unfold lsAt byGoal
  rw [Int.toNat_natCast, List.getElem?_map, List.getElem?_range hm]; rfl
theorem heldW_eq {ti : PI0} {t : Int} {n : Nat} {ws : List W} {i : Ins} (hi : InOk ti.ks n i) : heldL ti t (byGoal n ws) i = heldW ti t ws i := by
  unfold heldL heldW
  have e1 : (i.srcs.any fun s => srcHeld (kd ti.ks) t (lsAt (byGoal n ws) s)) = i.srcs.any fun s => srcHeld (kd ti.ks) t (near ws s) := by
    refine any_congr fun s hs => ?_
    rw [lsAt_by (hi.srcs s hs).1 (hi.srcs s hs).2]
  rw [e1]
  by_cases hg : i.goal < 0
  · rw [decide_eq_true hg]; simp
  · rw [lsAt_by (by omega) hi.goal.2]
theorem putL_by {n : Nat} {ws : List W} {i : Ins} {w : W} (hg : w.goal = i.goal) (h0 : 0 ≤ i.goal) (h1 : i.goal < n) : putL (byGoal n ws) i w = byGoal n (ws ++ [w]) := by
  obtain ⟨m, hm⟩ := Int.eq_ofNat_of_zero_le h0
  have hmn : m < n := by omega
  unfold putL
  rw [if_neg (by omega), lsAt_by h0 h1]
  refine List.ext_getElem? fun j => ?_
  have e2 : (byGoal n (ws ++ [w]))[j]? = if j < n then some (near (ws ++ [w]) (j : Int)) else none := by
    unfold byGoal
    rw [List.getElem?_map]
    by_cases hj : j < n
    · rw [if_pos hj, List.getElem?_range hj]; rfl
    · rw [if_neg hj, List.getElem?_eq_none (by simp; omega)]; rfl
  have e1 : ∀ j : Nat, (byGoal n ws)[j]? = if j < n then some (near ws (j : Int)) else none := fun j => by
    unfold byGoal
    rw [List.getElem?_map]
    by_cases hj : j < n
    · rw [if_pos hj, List.getElem?_range hj]; rfl
    · rw [if_neg hj, List.getElem?_eq_none (by simp; omega)]; rfl
  rw [e2, hm, Int.toNat_natCast]
  have tl : ((byGoal n ws).take m).length = m := by rw [List.length_take, byGoal_len]; omega
  by_cases h1 : j < m
  · rw [List.append_assoc, List.getElem?_append_left (by rw [tl]; exact h1), List.getElem?_take, if_pos h1, e1, near_snoc]
    rw [if_pos (by omega), if_pos (by omega), if_neg (by rw [hg, hm]; omega), List.append_nil]
  · by_cases h2 : j = m
    · subst h2
      rw [List.append_assoc, List.getElem?_append_right (by rw [tl]; omega), tl, Nat.sub_self, if_pos hmn, near_snoc, if_pos (by rw [hg, hm])]
      rfl
    · rw [List.append_assoc, List.getElem?_append_right (by rw [tl]; omega), tl, List.getElem?_append_right (by simp; omega), List.length_singleton, List.getElem?_drop, e1, near_snoc]
      have : m + 1 + (j - m - 1) = j := by omega
      rw [this]
      by_cases h3 : j < n
      · rw [if_pos h3, if_pos h3, if_neg (by rw [hg, hm]; omega), List.append_nil]
      · rw [if_neg h3, if_neg h3]
/-- the writers of a run of the law -/
structure WInv (ks : KT) (ws : List W) (j : Nat) (T : Int) : Prop where
  kn : ∀ w ∈ ws, Kn ks w.kind
  sz : ws.length ≤ j
  pw : ws.Pairwise fun a b => a.place < b.place
  pl : ∀ w ∈ ws, 0 ≤ w.place ∧ w.place < j
  tk : ∀ w ∈ ws, w.tick < T
theorem WInv.wsok {ks : KT} {ws : List W} {j : Nat} {T : Int} (h : WInv ks ws j T) (hj : j ≤ 50) : WsOk ks ws := ⟨h.kn, by have := h.sz; omega⟩
theorem WInv.near_pw {ks : KT} {ws : List W} {j : Nat} {T : Int} (h : WInv ks ws j T) (g : Int) : (near ws g).Pairwise fun a b => a.place < b.place := h.pw.filter _
theorem WInv.lsok {ks : KT} {ws : List W} {j : Nat} {T B : Int} {n : Nat} (h : WInv ks ws j T) (hj : j ≤ 50) (hl : ∀ x i, find ks x = some i → i.len ≤ 3) (hB : T + 3 ≤ B) (hn : n ≤ 4) : LsOk ks (byGoal n ws) B where
  ok := fun l hl' => by
    unfold byGoal at hl'
    obtain ⟨g, _, rfl⟩ := List.mem_map.mp hl'
    refine ⟨fun w hw => h.kn w (near_mem hw), ?_, ?_⟩
    · exact (h.near_pw g).imp fun {a b} hab e => by rw [e] at hab; omega
    · have := near_len ws (g : Int); have := h.sz; omega
  land := fun l hl' w hw => by
    unfold byGoal at hl'
    obtain ⟨g, _, rfl⟩ := List.mem_map.mp hl'
    have hwm := near_mem hw
    obtain ⟨i, hi⟩ := h.kn w hwm
    have h1 := h.tk w hwm
    have h2 := hl _ _ hi
    unfold K3.land
    rw [kd_len hi]; omega
  sz := by rw [byGoal_len]; exact hn
theorem WInv.pok {ks : KT} {ws : List W} {j : Nat} {T : Int} {n : Nat} (h : WInv ks ws j T) : ∀ l ∈ byGoal n ws, POk l := fun l hl => by
  unfold byGoal at hl
  obtain ⟨g, _, rfl⟩ := List.mem_map.mp hl
  exact ⟨h.near_pw g, fun w hw => (h.pl w (near_mem hw)).1⟩
theorem WInv.put {ks : KT} {ws : List W} {j : Nat} {T T' : Int} (h : WInv ks ws j T) {w : W} (hk : Kn ks w.kind) (hp : w.place = j) (ht : w.tick = T') (hT : T ≤ T') : WInv ks (ws ++ [w]) (j + 1) (T' + 1) where
  kn := fun u hu => by
    rcases List.mem_append.mp hu with hu | hu
    · exact h.kn u hu
    · rw [List.mem_singleton] at hu; subst hu; exact hk
  sz := by rw [List.length_append]; have := h.sz; simp; omega
  pw := List.pairwise_append.mpr ⟨h.pw, List.pairwise_singleton _ _, fun a ha b hb => by
    rw [List.mem_singleton] at hb; subst hb
    have := (h.pl a ha).2; omega⟩
  pl := fun u hu => by
    rcases List.mem_append.mp hu with hu | hu
    · have := h.pl u hu; omega
    · rw [List.mem_singleton] at hu; subst hu; omega
  tk := fun u hu => by
    rcases List.mem_append.mp hu with hu | hu
    · have := h.tk u hu; omega
    · rw [List.mem_singleton] at hu; subst hu; omega
theorem WInv.skip {ks : KT} {ws : List W} {j : Nat} {T T' : Int} (h : WInv ks ws j T) (hT : T ≤ T') : WInv ks ws (j + 1) (T' + 1) where
  kn := h.kn
  sz := by have := h.sz; omega
  pw := h.pw
  pl := fun u hu => by have := h.pl u hu; omega
  tk := fun u hu => by have := h.tk u hu; omega
theorem good_eq {ks : KT} {ws : List W} {j : Nat} {T : Int} {n : Nat} {i : Ins} (ko : KOk ks) (h : WInv ks ws j T) (hi : InOk ks n i) (t : Int) :
    readsL (kd ks) t (byGoal n ws) i = i.srcs.all fun s => decide (readOf (kd ks) t (near ws s) = newest (near ws s)) := by
  unfold readsL
  refine all_congr fun s hs => ?_
  rw [lsAt_by (hi.srcs s hs).1 (hi.srcs s hs).2]
  symm
  refine read_eq (kd ks) t (near ws s) (fun w hw e => ?_) (h.near_pw s) fun w hw => (h.pl w (near_mem hw)).1
  obtain ⟨ki, hki⟩ := h.kn w (near_mem hw)
  have e' : w.kind = "" := e
  rw [e', ko.no] at hki; cases hki
/-- the first tick at which it is not held is one -/
theorem first_one {p : Nat → Bool} {a b : Nat} (ha : ∀ j, j < a → p j = true) (ha' : p a = false) (hb : ∀ j, j < b → p j = true) (hb' : p b = false) : a = b := by
  rcases Nat.lt_trichotomy a b with h | h | h
  · have := hb a h; rw [ha'] at this; cases this
  · exact h
  · have := ha b h; rw [hb'] at this; cases this
end K3
namespace K3
open PySem PySem.Spec PyProof.Rows L2
/-- a promise for some settings -/
def exSp (sp : PI0 → Sp) : Sp := fun vs H Q E => ∃ ti : PI0, KOk ti.ks ∧ sp ti vs H Q E
theorem FnOk.ex {P : Program} {w : World} {K : PySem.W.Frag} {mg : Str → Option Value} {base : Heap} {k : Nat} {f : Addr} {fd : FuncData} {ps : List Str} {sp : PI0 → Sp}
    (F : ∀ ti : PI0, KOk ti.ks → FnOk P w K mg base CX0 k f fd ps (sp ti)) : FnOk P w K mg base CX0 k f fd ps (exSp sp) :=
  ⟨fun vs H Q E ⟨ti, ko, q⟩ => (F ti ko).len vs H Q E q, fun A outer s H args us vs Q E hr he hb hv ⟨ti, ko, q⟩ => (F ti ko).run A outer s H args us vs Q E hr he hb hv q⟩
/-! ### what stays while the law runs -/
structure Bs (K : PySem.W.Frag) (C : Addr) (H : Hp) (v : V) (p kdA c R a : Addr) (t : PI0) (ns : List Int) (rxs : List V) (ins : List Ins) : Prop where
  told : ToldF H v t
  pipe : PipeAt C H p kdA c t
  kd : KdAt H kdA t.ks
  scr : SqL K H a (ns.map V.int)
  rows : H R = some (.lst rxs)
  ral : Al (InAt H) rxs ins
section
variable {P : Program} {w : World} {K : PySem.W.Frag} {C : Addr} {H H' : Hp} {v : V} {p kdA c R a : Addr} {t : PI0} {ns : List Int} {rxs : List V} {ins : List Ins} {xs : List Kp}
theorem Bs.same (b : Bs K C H v p kdA c R a t ns rxs ins) (s : Same H H') : Bs K C H' v p kdA c R a t ns rxs ins :=
  ⟨b.told.same s, let ⟨dx, h⟩ := b.pipe; ⟨dx, s _ _ h⟩, b.kd.same s, s.seq b.scr, s _ _ b.rows, b.ral.mono fun _ _ => InAt.mono s.tups⟩
theorem Bs.but (hc : CacheAt P w t.ks H c xs) (b : Bs K C H v p kdA c R a t ns rxs ins) (bt : But c H H') : Bs K C H' v p kdA c R a t ns rxs ins where
  told := by
    obtain ⟨x, d, kvs, h1, h2, h3, h4, h5⟩ := b.told
    have tp := but_tups hc bt
    exact ⟨x, d, kvs, h1, tp _ _ h2, bt _ _ (fun z => by rw [z, hc.at_] at h3; cases h3) h3, h4.mono tp, h5⟩
  pipe := but_pipe hc bt b.pipe
  kd := but_kd hc bt b.kd
  scr := by
    rcases b.scr with (h | ⟨o, h⟩) | h
    · exact .inl (.inl (bt _ _ (fun z => by rw [z, hc.at_] at h; cases h) h))
    · exact .inl (.inr ⟨o, bt _ _ (fun z => by rw [z, hc.at_] at h; cases h) h⟩)
    · exact .inr h
  rows := bt _ _ (fun z => by have h := b.rows; rw [z, hc.at_] at h; cases h) b.rows
  ral := b.ral.mono fun _ _ => InAt.mono (but_tups hc bt)
theorem Bs.upd {wl : Addr} {l : List V} {o : HO} (b : Bs K C H v p kdA c R a t ns rxs ins) (hw : H wl = some (.lst l)) (hR : R ≠ wl) (hs : a ≠ wl ∨ ∀ H, SqL K H a (ns.map V.int)) : Bs K C (L2.upd H wl o) v p kdA c R a t ns rxs ins where
  told := by
    obtain ⟨x, d, kvs, h1, h2, h3, h4, h5⟩ := b.told
    have tp : Tups H (L2.upd H wl o) := tups_lst hw
    exact ⟨x, d, kvs, h1, tp _ _ h2, by rw [upd_ne (fun z => by rw [z, hw] at h3; cases h3)]; exact h3, h4.mono tp, h5⟩
  pipe := let ⟨dx, h⟩ := b.pipe; ⟨dx, by rw [upd_ne (fun z => by rw [z, hw] at h; cases h)]; exact h⟩
  kd := by
    obtain ⟨kvs, h1, h2⟩ := b.kd
    refine ⟨kvs, ?_, h2.mono (tups_lst hw)⟩
    rcases h1 with h1 | ⟨o', h1⟩
    · exact .inl (by rw [upd_ne (fun z => by rw [z, hw] at h1; cases h1)]; exact h1)
    · exact .inr ⟨o', by rw [upd_ne (fun z => by rw [z, hw] at h1; cases h1)]; exact h1⟩
  scr := by
    rcases hs with hne | hall
    · rcases b.scr with (h | ⟨o', h⟩) | h
      · exact .inl (.inl (by rw [upd_ne hne]; exact h))
      · exact .inl (.inr ⟨o', by rw [upd_ne hne]; exact h⟩)
      · exact .inr h
    · exact hall _
  rows := by rw [upd_ne hR]; exact b.rows
  ral := b.ral.mono fun _ _ => InAt.mono (tups_lst hw)
theorem CacheAt.upd {wl : Addr} {l : List V} {o : HO} (h : CacheAt P w t.ks H c xs) (hw : H wl = some (.lst l)) : CacheAt P w t.ks (L2.upd H wl o) c xs :=
  ⟨by rw [upd_ne (fun z => by have e := h.at_; rw [z, hw] at e; cases e)]; exact h.at_, fun q hq => ⟨(h.ok q hq).1.mono (tups_lst hw), (h.ok q hq).2.mono (tups_lst hw)⟩⟩
theorem but_lst (hc : CacheAt P w t.ks H c xs) (bt : But c H H') {b : Addr} {l : List V} (h : H b = some (.lst l)) : H' b = some (.lst l) := bt _ _ (fun z => by rw [z, hc.at_] at h; cases h) h
theorem but_ws (hc : CacheAt P w t.ks H c xs) (bt : But c H H') {b : Addr} {ws : List W} (h : WsAt H b ws) : WsAt H' b ws := let ⟨l, h1, h2⟩ := h; ⟨l, but_lst hc bt h1, h2.mono fun _ _ => WrAt.mono (but_tups hc bt)⟩
end
theorem st_zero (k : Kd Str) (hz : k.z = "") (n : Nat) : stOf k 0 (byGoal n []) = List.replicate n [(("" : Str), (0 : Int))] := by
  unfold stOf byGoal
  rw [List.map_map]
  refine List.ext_getElem? fun j => ?_
  rw [List.getElem?_map, List.getElem?_replicate]
  by_cases hj : j < n
  · rw [if_pos hj, List.getElem?_range hj]
    show some (lawRow k 0 (near [] (j : Int))) = _
    have : lawRow k 0 (near [] (j : Int)) = [(k.z, 0)] := rfl
    rw [this, hz]
  · rw [if_neg hj, List.getElem?_eq_none (by simp; omega)]; rfl
theorem OwAt.mono {H H' : Hp} (s : Tups H H') {v : V} : ∀ {o : Option W}, OwAt H v o → OwAt H' v o
  | none, h => h
  | some _, h => WrAt.mono s h
theorem eqv_two (i : Int) (b : Bool) : PyData.eqv (.tuple [.int i, .bool b]) (.tuple [.int i, .bool b]) = true := by
  have : PyData.eqv (.tuple [.int i, .bool b]) (.tuple [.int i, .bool b]) = (i == i && (b == b && true)) := rfl
  rw [this]; simp
theorem shaped_two (i : Int) (b : Bool) : SeqAt.shaped (.tuple [.int i, .bool b]) = true := rfl
abbrev σL (a : Addr) (v : V) (p R : Addr) (v4 v5 v6 v7 v8 v9 v10 v11 v12 v13 v14 v15 v16 v17 v18 v19 v20 : Option V) : L2.St := [some (.ref a), some v, some (.ref p), some (.ref R), v4, v5, v6, v7, v8, v9, v10, v11, v12, v13, v14, v15, v16, v17, v18, v19, v20]
def spLaw (K : PySem.W.Frag) : Sp := fun vs H Q _ => ∃ (a : Addr) (ns : List Int), vs = [.ref a] ∧ SqL K H a (ns.map V.int) ∧ ns.length ≤ 63 ∧ ∀ H', Q (.bl true) H'
abbrev nLaw : List Str := ["script", "told", "pipe", "rows", "turn", "program", "standing", "writers", "tick", "place", "one", "ticks", "good", "held", "fine", "ends", "due", "spot", "source", "goal", "end"]
theorem scLaw : FnScope nLaw ["script"] (defScope sLaw) := ⟨rfl, rfl, rfl, by decide +kernel, rfl, by decide +kernel, by decide +kernel⟩
section
variable {P : Program} {w : World} {K : PySem.W.Frag} {mg : Str → Option Value} {base : Heap} {C : Addr}
theorem ok_law {f f1 f2 f3 f4 f5 f6 f7 f8 f9 fa fb fc : Addr} {fd d1 d2 d3 d4 d5 d6 d7 d8 d9 da db dc : FuncData} (F : Fun K "law" "law" sLaw f fd) (T : Txt K mg) (TC : TxtC K mg C)
    (DSet : Dfn P w K mg base "_law_settings" 2 ["script", "at"] (spSet K) f1 d1) (DPipe : Dfn P w K mg base "_law_pipe" 6 ["told"] (spPipe P w C) f2 d2) (DRows : Dfn P w K mg base "_law_rows" 1 ["told"] spRows f3 d3)
    (DDraw : Dfn P w K mg base "_law_draw" 1 ["script", "at", "many"] (spDraw K) f4 d4) (DNew : Dfn P w K mg base "_law_newest" 1 ["writers", "goal"] spNewest f5 d5) (DStart : Dfm P w K mg base C "start" 1 ["self"] (exSp (spStart C)) f6 d6)
    (DLH : Dfn P w K mg base "_law_held" 2 ["told", "writers", "one", "tick"] (exSp spLHeld) f7 d7) (DRead : Dfn P w K mg base "_law_read" 3 ["told", "writers", "source", "tick"] (exSp spRead) f8 d8)
    (DLast : Dfn P w K mg base "_law_last" 2 ["told", "writers", "goal", "tick"] (exSp spLast) f9 d9) (DStand : Dfn P w K mg base "_law_standing" 3 ["told", "writers", "tick"] (exSp spStand) fa da)
    (DFollow : Dfm P w K mg base C "follow" 4 ["self", "standing", "instruction"] (exSp (spFollow P w C)) fb db) (DEnds : Dfm P w K mg base C "ends_right" 4 ["self", "standing"] (exSp (spEnds C)) fc dc) :
    FnOk P w K mg base CX0 7 f fd ["script"] (spLaw K) := by
  refine F.ok scLaw (fun vs H Q E h => ?_) (fun cdv A outer s H vs Q E hr h => ?_)
  · obtain ⟨a, ns, rfl, _⟩ := h
    rfl
  · obtain ⟨a, ns, rfl, hS, hlen, k⟩ := h
    have nd := scLaw.nd
    have hr1 : Room 1 _ := hr.mono (by decide)
    have hr2 : Room 2 _ := hr.mono (by decide)
    have hr3 : Room 3 _ := hr.mono (by decide)
    have hr4 : Room 4 _ := hr.mono (by decide)
    refine ⟨_, pss_cons (ps_set (i := 1) nd rfl (.inr rfl) (pcl DSet hr2 (pa_cons (pv 0) (pa_cons pe_int pa_nil))))
      (pss_cons (ps_asg (ptup (pa_cons (pcl DPipe hr (pa_cons (pv 1) pa_nil)) (pa_cons (pcl DRows hr1 (pa_cons (pv 1) pa_nil)) pa_nil))) (pg_tup (by rfl) (pgs_cons (pg_name (i := 2) nd rfl (.inl rfl)) (pgs_cons (pg_name (i := 3) nd rfl (.inr rfl)) pgs_nil))))
      (pss_cons (ps_for PassesOwn.never rfl (pi_range1 rfl T.range (pa_cons pe_int pa_nil)) (pg_name (i := 4) nd rfl (.inr rfl))
        (pss_cons (ps_setLc (i := 5) (own := [("spot", 17)]) (g := gName 17) (by rfl) nd rfl rfl (sw_true rfl rfl rfl (by decide +kernel)) (pi_range1 rfl T.range (pa_cons pe_int pa_nil)) (blkOk_by (N := nLaw) (sc := defScope sLaw) (by decide +kernel))
            (fun _ _ _ _ _ => pg_name (i := 17) nd rfl (.inl rfl)) (fun _ _ _ _ _ => pts_nil)
            (fun _ _ _ _ _ => pe_ix (ixL K) (pv 3) (pcl DDraw hr1 (pa_cons (pv 0) (pa_cons (pe_op op_add (pe_op op_add pe_int (pe_op op_mul pe_int (pv 4))) (pv 17)) (pa_cons (pe_callB (lenK K) (by rfl) T.len (by decide +kernel) (pa_cons (pv 3) pa_nil)) pa_nil)))) (fun _ _ => rfl)))
        (pss_cons (ps_asg (ptup (pa_cons (pe_meth0 (pv 2) TC.cl DStart.meth DStart.ok hr1 DStart.b .nil pass0) (pa_cons (plst pa_nil) (pa_cons pe_int pa_nil))))
            (pg_tup (by rfl) (pgs_cons (pg_name (i := 6) nd rfl (.inl rfl)) (pgs_cons (pg_name (i := 7) nd rfl (.inr rfl)) (pgs_cons (pg_name (i := 8) nd rfl (.inr rfl)) pgs_nil)))))
        (pss_one (ps_for PassesOwn.never rfl (pi_enum (by rfl) T.enumerate (pa_cons (pv 5) pa_nil)) (pgT2 K 9 10 nd)
          (pss_cons (ps_set (i := 11) nd rfl (.inl rfl) pe_int)
          (pss_cons (ps_while PassesOwn.never (pt_val (pcl DLH hr2 (pa_cons (pv 1) (pa_cons (pv 7) (pa_cons (pv 10) (pa_cons (pv 8) pa_nil))))))
            (pss_one (ps_asg (ptup (pa_cons (pe_op op_add (pv 8) pe_int) (pa_cons (pe_op op_add (pv 11) pe_int) pa_nil))) (pg_tup (by rfl) (pgs_cons (pg_name (i := 8) nd rfl (.inr rfl)) (pgs_cons (pg_name (i := 11) nd rfl (.inl rfl)) pgs_nil))))))
          (pss_cons (ps_set (i := 12) nd rfl (.inl rfl) (pe_callB (cr_all rfl) (by rfl) T.all (by decide +kernel) (pa_cons
              (pe_lc (own := [("source", 18)]) (g := gName 18) (by rfl) nd (pi_tup (pe_ix (ixT K) (pv 10) pe_int (fun _ _ => rfl))) (blkOk_by (N := nLaw) (sc := defScope sLaw) (by decide +kernel))
                (fun _ _ _ _ _ => pg_name (i := 18) nd rfl (.inl rfl)) (fun _ _ _ _ _ => pts_nil)
                (fun _ _ _ _ _ => pe_cmpR op_eq (pcl DRead hr3 (pa_cons (pv 1) (pa_cons (pv 7) (pa_cons (pv 18) (pa_cons (pv 8) pa_nil))))) (pcl DNew hr1 (pa_cons (pv 7) (pa_cons (pv 18) pa_nil))) (nomark _))) pa_nil)))
          (pss_cons (ps_asg (pe_meth (pv 2) TC.cl DFollow.meth DFollow.ok hr4 DFollow.b .nil pass0 (pa_cons (pv 6) (pa_cons (pv 10) pa_nil)))
              (pg_tup (by rfl) (pgs_cons (pg_name (i := 13) nd rfl (.inl rfl)) (pgs_cons (pg_name (i := 14) nd rfl (.inl rfl)) (pgs_cons (pg_name (i := 6) nd rfl (.inl rfl)) pgs_nil)))))
          (Evl.pss_cut (ps_if (pt_cmpR op_ge (pe_ix ix_tup (pv 10) pe_int (fun _ _ => rfl)) pe_int (nomark _))
              (pss_one (ps_expr (pe_bm PySem.F.plainAttrs_list PySem.F.slot_list_append PySem.F.type_list_append mt_append (pv 7) (pa_cons (ptup (pa_cons (pv 9) (pa_cons (pe_ix ix_tup (pv 10) pe_int (fun _ _ => rfl)) (pa_cons (pe_ix ix_tup (pv 10) pe_int (fun _ _ => rfl)) (pa_cons (pv 8) pa_nil))))) pa_nil)))) pss_nil)
          (pss_cons (ps_set (i := 8) nd rfl (.inr rfl) (pe_op op_add (pv 8) pe_int))
          (pss_cons (ps_if (PW.pt (pw_or (pt_cmpR (neDK K hr.units) (ptup (pa_cons (pv 13) (pa_cons (pv 14) pa_nil))) (ptup (pa_cons (pv 11) (pa_cons (pv 12) pa_nil))) (nomark _))
              (pw_or1 (pt_cmpR (neDK K hr.units) (pv 6) (pcl DStand hr3 (pa_cons (pv 1) (pa_cons (pv 7) (pa_cons (pv 8) pa_nil)))) (nomark _))))) (pss_one (ps_ret pe_bl)) pss_nil)
          (pss_cons (ps_setLc (i := 15) (own := [("goal", 19)]) (g := gName 19) (by rfl) nd rfl rfl (sw_true rfl rfl rfl (by decide +kernel)) (pi_range1 rfl T.range (pa_cons (pe_ix ix_tup (pv 1) pe_int (fun _ _ => rfl)) pa_nil)) (blkOk_by (N := nLaw) (sc := defScope sLaw) (by decide +kernel))
              (fun _ _ _ _ _ => pg_name (i := 19) nd rfl (.inl rfl)) (fun _ _ _ _ _ => pts_nil)
              (fun _ _ _ _ _ => pcl DLast hr2 (pa_cons (pv 1) (pa_cons (pv 7) (pa_cons (pv 19) (pa_cons (pe_op op_add (pv 8) pe_int) pa_nil))))))
          (pss_cons (ps_setLc (i := 16) (own := [("goal", 19), ("end", 20)]) (by rfl) nd rfl rfl (sw_true rfl rfl rfl (by decide +kernel)) (pi_enum (by rfl) T.enumerate (pa_cons (pv 15) pa_nil)) (blkOk_by (N := nLaw) (sc := defScope sLaw) (by decide +kernel))
              (fun _ _ _ _ _ => pgT2 K 19 20 nd) (fun _ _ _ _ _ => pts_nil)
              (fun _ _ _ _ _ => pe_cmpR op_eq (pe_ifExp (pt_cmpR op_isN (pv 20) pe_non (nomark _)) (pe_un un_neg pe_int) (pe_ix (ixT K) (pv 20) pe_int (fun _ _ => rfl))) (pcl DNew hr1 (pa_cons (pv 7) (pa_cons (pv 19) pa_nil))) (nomark _)))
          (pss_one (ps_if (pt_cmpR op_ne (pe_meth (pv 2) TC.cl DEnds.meth DEnds.ok hr4 DEnds.b .nil pass0 (pa_cons (pv 6) pa_nil)) (pe_callB (cr_all rfl) (by rfl) T.all (by decide +kernel) (pa_cons (pv 16) pa_nil)) (nomark _)) (pss_one (ps_ret pe_bl)) pss_nil))))))))))))
        ))))
      (pss_one (ps_ret pe_bl)))), ?_⟩
    -- told
    refine ⟨_, rfl, a, ns, 0, rfl, hS, hlen, by decide, by decide, fun v H1 t s1 hF r1 r2 hl3 => ?_⟩
    have hkt : KtOk t.ks := by obtain ⟨_, _, _, _, _, _, _, h⟩ := hF; exact h
    have ko := hkt.kok
    let kk := kd t.ks
    let n := t.regs.toNat
    have hn : n ≤ 4 := by show t.regs.toNat ≤ 4; omega
    have hnI : (n : Int) = t.regs := by show (t.regs.toNat : Int) = _; omega
    have hlen3 : ∀ x i, find t.ks x = some i → i.len ≤ 3 := fun x i h => hl3 _ (find_mem h)
    -- pipe, rows
    refine ⟨_, rfl, v, t, rfl, hF, r1, by omega, fun H2 p kdA c s2 hp2 hk2 hc2 => ?_⟩
    refine ⟨_, rfl, v, t, rfl, hF.same s2, r1, r2, fun H3 R rxs ins s3 hR3 hRal hine hilen hiok => ?_⟩
    refine rd_t2 fun p4 H4 s4 h4 => ?_
    have s34 := s3.trans s4
    have base4 : Bs K C H4 v p kdA c R a t ns rxs ins :=
      ⟨hF.same (s2.trans s34), let ⟨dx, h⟩ := hp2; ⟨dx, s34 _ _ h⟩, hk2.same s34, ((s1.trans s2).trans s34).seq hS, s4 _ _ hR3, hRal.mono fun _ _ => InAt.mono s4.tups⟩
    have rlen : rxs.length = ins.length := hRal.1
    have rpos : 0 < ins.length := List.length_pos_iff.mpr hine
    refine ⟨p4, _, rfl, SqT.of h4, rfl, _, _, rfl, _, _, rfl, rfl, ?_⟩
    -- three turns
    refine ⟨3, rfl, by decide, by decide, for_range (n := (3 : Int).toNat) (fun j σ' H' => Bs K C H' v p kdA c R a t ns rxs ins ∧ (∃ xs, CacheAt P w t.ks H' c xs ∧ xs.length ≤ 1000 * j) ∧ ∃ v4 v5 v6 v7 v8 v9 v10 v11 v12 v13 v14 v15 v16 v17 v18 v19 v20, σ' = σL a v p R v4 v5 v6 v7 v8 v9 v10 v11 v12 v13 v14 v15 v16 v17 v18 v19 v20)
      ⟨base4, ⟨[], hc2.same s34, Nat.zero_le _⟩, none, none, none, none, none, none, none, none, none, none, none, none, none, none, none, none, none, rfl⟩ ?_ ?_⟩
    · rintro j σ' H5 hj ⟨b5, ⟨xs5, c5, l5⟩, v4, v5, v6, v7, v8, v9, v10, v11, v12, v13, v14, v15, v16, v17, v18, v19, v20, rfl⟩
      have hj3 : j < 3 := hj
      -- program
      refine ⟨8, rfl, by decide, by decide, fun D nD => ?_⟩
      refine lc_it (walk_range (lo := 0) (n := (8 : Int).toNat)) (fun m H' => Same H5 H' ∧ ∃ acc prog, H' D = some (.lst acc) ∧ Al (InAt H') acc prog ∧ prog.length = m ∧ ∀ i ∈ prog, InOk t.ks n i)
        ⟨same_upd nD, [], [], upd_same, Al.nil, rfl, fun i h => by cases h⟩ (fun m H' _ hh => True.intro) ?_ ?_
      · rintro m y H6 H6' hm ⟨s6, acc, prog, hD, hal, hpl, hpo⟩ ⟨rfl, rfl⟩
        have hm8 : m < 8 := hm
        have b6 := b5.same s6
        refine ⟨rfl, ?_⟩
        refine ⟨_, rfl, _, rfl, _, rfl, _, _, rfl, rfl, .inl ⟨by decide, by decide⟩, _, _, rfl, rfl, _, rfl, _, _, rfl, rfl, _, rfl, R, rxs, rfl, .inl (SqL.of b6.rows), a, ns, _, _, rfl, b6.scr, hlen, by omega, by omega, by omega, by omega, fun H7 r s7 q0 q1 => ?_⟩
        obtain ⟨rj, hrj⟩ := Int.eq_ofNat_of_zero_le q0
        have hrl : rj < rxs.length := by omega
        have hat : rxs[rj]? = some rxs[rj] := List.getElem?_eq_getElem hrl
        obtain ⟨i, hi, hx⟩ := b6.ral.at hat
        refine ⟨R, rxs, _, _, rfl, rfl, SqL.of (s7 _ _ b6.rows), atI_mid hrj hat, acc, s7 _ _ hD, ?_, (s6.trans s7).mut nD, acc ++ [rxs[rj]], prog ++ [i], upd_same, ?_, by rw [List.length_append, hpl]; rfl, fun i' h => ?_⟩
        · rw [hal.1, hpl]; exact szl (by omega)
        · have tp : Tups H7 (upd H7 D (.lst (acc ++ [rxs[rj]]))) := tups_lst (s7 _ _ hD)
          exact Al.snoc (hal.mono fun _ _ z => InAt.mono tp (InAt.mono s7.tups z)) (InAt.mono tp (InAt.mono s7.tups hx))
        · rcases List.mem_append.mp h with h | h
          · exact hpo i' h
          · rw [List.mem_singleton] at h; subst h; exact hiok _ (List.mem_of_getElem? hi)
      rintro H6 ⟨s6, pgv, prog, hD6, hpal, hplen, hpok⟩
      have hplen8 : prog.length = 8 := hplen
      have b6 := b5.same s6
      have c6 := c5.same s6
      -- standing, writers, tick
      obtain ⟨dx6, hp6⟩ := id b6.pipe
      refine ⟨_, rfl, p, dx6, _, rfl, hp6, pfl_m (by decide +kernel) (by decide +kernel) (by decide +kernel) (by decide +kernel) (by decide +kernel), t, ko, p, kdA, c, rfl, ⟨dx6, hp6⟩, r1, by omega, fun sv0 H7 s7 st7 => ?_⟩
      refine rd_l0 fun wl H8 nwl s8 hwl8 => ?_
      refine rd_t3 fun p9 H9 s9 h9 => ?_
      have s79 := (s7.trans s8).trans s9
      have b7 := b6.same s7
      have b9 := b6.same s79
      have c9 := c6.same s79
      have hRw : R ≠ wl := ne_of_none b7.rows nwl
      have hDw : D ≠ wl := ne_of_none (s7 _ _ hD6) nwl
      have hcw : c ≠ wl := ne_of_none (c6.same s7).at_ nwl
      have hscr : a ≠ wl ∨ ∀ H, SqL K H a (ns.map V.int) := by
        rcases b7.scr with (h | ⟨o, h⟩) | h
        · exact .inl (ne_of_none h nwl)
        · exact .inl (ne_of_none h nwl)
        · exact .inr fun _ => .inr h
      refine ⟨p9, _, rfl, SqT.of h9, rfl, _, _, rfl, _, _, rfl, _, _, rfl, rfl, ?_⟩
      -- the program
      have hD9 := s79 _ _ hD6
      refine ⟨_, rfl, D, pgv, rfl, SqL.of hD9, for_it (walk_enum (xs := pgv)) (fun i σ' H' => Bs K C H' v p kdA c R a t ns rxs ins ∧ H' D = some (.lst pgv) ∧ Al (InAt H') pgv prog ∧ (∃ xs, CacheAt P w t.ks H' c xs ∧ xs.length ≤ 1000 * j + 100 * i) ∧
          ∃ ws T sv, WsAt H' wl ws ∧ WInv t.ks ws i T ∧ StAt H' sv (stOf kk T (byGoal n ws)) ∧ ∃ v9 v10 v11 v12 v13 v14 v15 v16 v17 v18 v19 v20, σ' = σL a v p R (some (.int (0 + (j : Int)))) (some (.ref D)) (some sv) (some (.ref wl)) (some (.int T)) v9 v10 v11 v12 v13 v14 v15 v16 v17 v18 v19 v20)
        ⟨b9, hD9, hpal.mono fun _ _ => InAt.mono s79.tups, ⟨xs5, c9, by omega⟩, [], 0, sv0, ⟨[], s9 _ _ hwl8, Al.nil⟩, ⟨fun w h => (by cases h), Nat.zero_le _, List.Pairwise.nil, fun w h => (by cases h), fun w h => (by cases h)⟩, (by rw [st_zero kk rfl n]; exact st7.mono (s8.trans s9).tups), v9, v10, v11, v12, v13, v14, v15, v16, v17, v18, v19, v20, rfl⟩
        (fun i σ' H' _ hh => SqL.of hh.2.1) ?_ ?_⟩
      · rintro i y σ' Ha Hb hi ⟨ba, hDa, pala, ⟨xsa, ca, la⟩, ws, T, sv, hwsa, winv, sta, u9, u10, u11, u12, u13, u14, u15, u16, u17, u18, u19, u20, rfl⟩ ⟨T0, x1, x2, rfl, nT0, rfl, e1, e2⟩
        cases e1
        obtain ⟨I, hI, hx⟩ := pala.at e2
        have iok := hpok I (List.mem_of_getElem? hI)
        have hi8 : i < 8 := by rw [← hplen8, ← pala.1]; exact hi
        have sT := same_upd (o := HO.tup [V.int (i : Nat), x2]) nT0
        generalize hHb : upd Ha T0 (HO.tup [V.int (i : Nat), x2]) = Hb at sT
        have hT0 : Hb T0 = some (.tup [.int (i : Nat), x2]) := by rw [← hHb]; exact upd_same
        have bb := ba.same sT
        have cb := ca.same sT
        have wsb := hwsa.same sT
        have stb := sta.mono sT.tups
        have inb := hx.mono sT.tups
        have hDb := sT _ _ hDa
        have palb : Al (InAt Hb) pgv prog := pala.mono fun _ _ => InAt.mono sT.tups
        have wok := winv.wsok (by omega)
        have lok := winv.lsok (n := n) (B := T + 3) (by omega) hlen3 (Int.le_refl _) hn
        have iokL : InOk t.ks (byGoal n ws).length I := by rw [byGoal_len]; exact iok
        refine ⟨T0, _, rfl, SqT.of hT0, rfl, _, _, rfl, _, _, rfl, rfl, ?_⟩
        -- the while
        refine ⟨fun m σ' H' => ∃ nl : Nat, m = (T + 3 - (T + nl)).toNat ∧ Same Hb H' ∧ (∀ q : Nat, q < nl → heldL t (T + q) (byGoal n ws) I = true) ∧ σ' = σL a v p R (some (.int (0 + (j : Int)))) (some (.ref D)) (some sv) (some (.ref wl)) (some (.int (T + nl))) (some (.int (i : Nat))) (some x2) (some (.int nl)) u12 u13 u14 u15 u16 u17 u18 u19 u20,
          ⟨_, 0, rfl, Same.refl _, fun q h => absurd h (Nat.not_lt_zero _), (by simp)⟩, ?_⟩
        rintro m σ' Hc ⟨nl, rfl, sc, hh, rfl⟩
        refine ⟨_, rfl, _, rfl, _, rfl, _, rfl, t, ko, v, x2, wl, ws, I, T + nl, n, rfl, (bb.same sc).told.told, wsb.same sc, wok, inb.mono sc.tups, iok, fun Hd sd => ⟨_, rfl, ?_⟩⟩
        have scd := sc.trans sd
        rw [← heldW_eq (n := n) iok]
        cases hhe : heldL t (T + nl) (byGoal n ws) I with
        | true =>
          have hlt := held_lt ko lok iokL hhe
          refine iteT ⟨fun σ'' H'' => Same Hb H'' ∧ σ'' = σL a v p R (some (.int (0 + (j : Int)))) (some (.ref D)) (some sv) (some (.ref wl)) (some (.int (T + ((nl + 1 : Nat) : Int)))) (some (.int (i : Nat))) (some x2) (some (.int ((nl + 1 : Nat) : Int))) u12 u13 u14 u15 u16 u17 u18 u19 u20, fun σ'' H'' hN => ?_, ?_⟩
          · obtain ⟨s'', rfl⟩ := hN
            refine ⟨(T + 3 - (T + ((nl + 1 : Nat) : Int))).toNat, by omega, nl + 1, rfl, s'', fun q hq => ?_, rfl⟩
            by_cases e : q = nl
            · subst e; exact hhe
            · exact hh q (by omega)
          · refine ⟨_, rfl, _, _, rfl, rfl, _, rfl, _, _, rfl, rfl, ?_⟩
            refine rd_t2 fun pe He se he => ?_
            refine ⟨pe, _, rfl, SqT.of he, rfl, _, _, rfl, _, _, rfl, rfl, scd.trans se, ?_⟩
            have e1 : T + (nl : Int) + 1 = T + ((nl + 1 : Nat) : Int) := by omega
            show σL a v p R (some (.int (0 + (j : Int)))) (some (.ref D)) (some sv) (some (.ref wl)) (some (.int (T + (nl : Int) + 1))) (some (.int (i : Nat))) (some x2) (some (.int ((nl : Int) + 1))) u12 u13 u14 u15 u16 u17 u18 u19 u20 = _
            rw [e1]; rfl
        | false =>
          refine iteF ?_
          have bd := bb.same scd
          have cd := cb.same scd
          have wsd := wsb.same scd
          have ind := inb.mono scd.tups
          obtain ⟨ia, ib, rfl, hia, hib⟩ := id ind
          -- good
          refine ⟨_, rfl, ia, _, 2, _, rfl, rfl, SqT.of hia, rfl, ib, rfl, ⟨_, SqT.of hib⟩, fun D2 nD2 => lc_tup (K := K) (xs := I.srcs.map V.int) (fun m H' => Same Hd H' ∧ H' D2 = some (.lst ((I.srcs.take m).map fun s => V.bl (decide (readOf kk (T + nl) (near ws s) = newest (near ws s))))))
            ⟨same_upd nD2, upd_same⟩ (fun m H' _ hh => SqT.of (hh.1 _ _ hib)) ?_ ?_⟩
          · rintro m y H' hm ⟨s', hD2⟩
            obtain ⟨s0, hs0, rfl⟩ := map_at hm
            have b' := bd.same s'
            refine ⟨rfl, ?_⟩
            refine ⟨_, rfl, _, rfl, _, rfl, _, rfl, t, ko, v, wl, ws, s0, T + nl, rfl, b'.told.told, wsd.same s', wok, ?_⟩
            refine ⟨_, rfl, _, rfl, wl, ws, s0, rfl, wsd.same s', by have := wok.sz; omega, fun H'' s'' => ?_⟩
            refine ⟨rfl, _, s'' _ _ hD2, ?_, (s'.trans s'').mut nD2, ?_⟩
            · rw [List.length_map, List.length_take]
              have := iok.len
              exact szl (by omega)
            · rw [upd_same, map_take_succ hs0, dec_int]
          rintro He ⟨se, hDe⟩
          rw [List.length_map, List.take_length] at hDe
          refine ⟨D2, I.srcs.map (fun s => decide (readOf kk (T + nl) (near ws s) = newest (near ws s))), rfl, ?_, ?_⟩
          · rw [List.map_map]; exact SqL.of hDe
          rw [List.all_map]
          have be := bd.same se
          have ce := cd.same se
          have wse := wsd.same se
          have ine := ind.mono se.tups
          have ste := stb.mono (scd.trans se).tups
          obtain ⟨dxe, hpe⟩ := id be.pipe
          -- follow
          refine ⟨_, rfl, p, dxe, _, rfl, hpe, pfl_m (by decide +kernel) (by decide +kernel) (by decide +kernel) (by decide +kernel) (by decide +kernel), _, rfl, _, rfl, t, ko, p, kdA, c, sv, .ref ia, T, T + 3, byGoal n ws, I, xsa, rfl, ⟨dxe, hpe⟩, be.kd, ce, ste, ine, lok, iokL, by omega, by omega, fun nf r sv' Hf xsf hj1 hj2 bt cf lf hr hst => ?_⟩
          have enf : nf = nl := first_one (p := fun q => heldL t (T + (q : Nat)) (byGoal n ws) I) hj1 hj2 hh hhe
          subst enf
          have bf := be.but ce bt
          have wsf := but_ws ce bt wse
          have inf := ine.mono (but_tups ce bt)
          have hDf : Hf D = some (.lst pgv) := but_lst ce bt ((scd.trans se) _ _ hDb)
          have palf : Al (InAt Hf) pgv prog := palb.mono fun _ _ z => InAt.mono (but_tups ce bt) (InAt.mono (scd.trans se).tups z)
          have egood : (I.srcs.all (id ∘ fun s => decide (readOf kk (T + nf) (near ws s) = newest (near ws s)))) = readsL kk (T + nf) (byGoal n ws) I := (good_eq ko winv iok (T + nf)).symm
          rw [egood]
          refine ⟨r, _, rfl, SqT.of hr, rfl, _, _, rfl, _, _, rfl, _, _, rfl, rfl, ?_⟩
          -- the writer
          let wn : W := ⟨(i : Int), I.kind, I.goal, T + nf⟩
          let ws' : List W := if I.goal < 0 then ws else ws ++ [wn]
          have winv' : WInv t.ks ws' (i + 1) (T + nf + 1) := by
            show WInv t.ks (if I.goal < 0 then ws else ws ++ [wn]) _ _
            split
            · exact winv.skip (by omega)
            · exact winv.put iok.kn rfl rfl (by omega)
          have est : (putS (stOf kk (T + nf) (byGoal n ws)) I).map (agedS kk) = stOf kk (T + nf + 1) (byGoal n ws') := by
            show _ = stOf kk _ (byGoal n (if I.goal < 0 then ws else ws ++ [wn]))
            obtain ⟨ki, hki⟩ := iok.kn
            have lok' := winv'.lsok (n := n) (B := T + nf + 1 + 3) (by omega) hlen3 (Int.le_refl _) hn
            by_cases hg : I.goal < 0
            · rw [if_pos hg]
              unfold putS
              rw [if_pos hg]
              exact st_next ko lok
            · rw [if_neg hg]
              have : ws' = ws ++ [wn] := if_neg hg
              rw [this] at lok'
              rw [put_st (w := wn) rfl rfl (by rw [kd_len hki]; exact (ko.len _ _ hki).1) iokL.goal.2, putL_by rfl (by omega) iok.goal.2]
              exact st_next ko lok'
          rw [est] at hst
          refine ⟨fun σ' H' => Bs K C H' v p kdA c R a t ns rxs ins ∧ H' D = some (.lst pgv) ∧ Al (InAt H') pgv prog ∧ CacheAt P w t.ks H' c xsf ∧ WsAt H' wl ws' ∧ StAt H' sv' (stOf kk (T + nf + 1) (byGoal n ws')) ∧
            σ' = σL a v p R (some (.int (0 + (j : Int)))) (some (.ref D)) (some sv') (some (.ref wl)) (some (.int (T + nf))) (some (.int (i : Nat))) (some (.ref ia)) (some (.int nf)) (some (.bl (readsL kk (T + nf) (byGoal n ws) I))) (some (.int nf)) (some (.bl (readsL kk (T + nf) (byGoal n ws) I))) u15 u16 u17 u18 u19 u20, ?_, ?_⟩
          · obtain ⟨ia', ib', e, hiaf, hibf⟩ := id inf
            cases e
            refine ⟨_, rfl, ia, _, 1, _, rfl, rfl, SqT.of hiaf, rfl, _, _, rfl, rfl, _, rfl, ?_⟩
            by_cases hg : I.goal < 0
            · rw [decide_eq_false (show ¬ (0 : Int) ≤ I.goal by omega)]
              refine iteF ⟨bf, hDf, palf, cf, ?_, hst, rfl⟩
              show WsAt _ _ (if I.goal < 0 then ws else ws ++ [wn])
              rw [if_pos hg]; exact wsf
            · rw [decide_eq_true (show (0 : Int) ≤ I.goal by omega)]
              refine iteT ?_
              obtain ⟨wxs, hwx, hwal⟩ := id wsf
              refine ⟨_, rfl, .inl ⟨rfl, _, SqL.of hwx⟩, ?_⟩
              refine ⟨_, rfl, _, rfl, ia, _, 0, _, rfl, rfl, SqT.of hiaf, rfl, _, rfl, ia, _, 1, _, rfl, rfl, SqT.of hiaf, rfl, _, rfl, ?_⟩
              refine rd_t4 fun pg Hg sg hg4 => ?_
              have hwg := sg _ _ hwx
              have tp : Tups Hg (upd Hg wl (.lst (wxs ++ [.ref pg]))) := tups_lst hwg
              refine ⟨wl, wxs, _, rfl, rfl, hwg, ?_, (bf.same sg).upd hwg hRw hscr, by rw [upd_ne hDw]; exact sg _ _ hDf, palf.mono fun _ _ z => InAt.mono tp (InAt.mono sg.tups z), (cf.same sg).upd hwg, ?_, hst.mono fun b xs e => tp _ _ (sg _ _ e), rfl⟩
              · rw [hwal.1]; have := wok.sz; exact szl (by omega)
              · show WsAt _ _ (if I.goal < 0 then ws else ws ++ [wn])
                rw [if_neg hg]
                exact ⟨_, upd_same, Al.snoc (hwal.mono fun _ _ z => WrAt.mono tp (WrAt.mono sg.tups z)) ⟨pg, rfl, tp _ _ hg4⟩⟩
          · rintro σ' Hg ⟨bg, hDg, palg, cg, wsg, stg, rfl⟩
            have wok' := winv'.wsok (by omega)
            -- tick = tick + 1
            refine ⟨_, rfl, _, _, rfl, rfl, ?_⟩
            -- the comparison
            refine ⟨_, rfl, _, rfl, ?_⟩
            refine rd_t2 fun ph Hh sh hh4 => ?_
            refine ⟨_, rfl, _, rfl, ?_⟩
            refine rd_t2 fun pi Hi si hi4 => ?_
            have sgi := sh.trans si
            refine ⟨_, _, dp_two (si _ _ hh4), dp_two hi4, shaped_two _ _, shaped_two _ _, _, rfl, ?_⟩
            rw [eqv_two]
            refine iteF ?_
            refine ⟨_, rfl, _, rfl, _, rfl, _, rfl, t, ko, v, wl, ws', T + nf + 1, rfl, (bg.same sgi).told.told, wsg.same sgi, wok', r1, by omega, fun sw Hk sk stk => ?_⟩
            have sgk := sgi.trans sk
            have strS : ∀ r ∈ stOf kk (T + nf + 1) (byGoal n ws'), ∀ e ∈ r, PyData.strOk e.1 = true := fun r hr e he => by
              have lok' := winv'.lsok (n := n) (B := T + nf + 1 + 3) (by omega) hlen3 (Int.le_refl _) hn
              rcases (lok'.rows (T + nf + 1) r hr).kn e he with h | ⟨q, hq⟩
              · rw [h]; decide +kernel
              · exact ko.str _ _ hq
            have shS := shaped_st strS
            refine ⟨dS _, dS _, dp_st (stg.mono sgk.tups), dp_st stk, shS, shS, _, rfl, ?_⟩
            rw [SeqAt.eqv_refl _ (SeqAt.canLay_of_shaped shS)]
            refine iteF ?_
            -- ends
            have bk := bg.same sgk
            have ck := cg.same sgk
            have wsk := wsg.same sgk
            obtain ⟨ta, td, tkvs, et, hta, _⟩ := id bk.told
            subst et
            refine ⟨_, rfl, ta, _, 0, _, rfl, rfl, SqT.of hta, rfl, t.regs, rfl, by omega, by omega, fun D3 nD3 => ?_⟩
            refine lc_it (walk_range (lo := 0) (n := t.regs.toNat)) (fun m H' => Same Hk H' ∧ ∃ acc, H' D3 = some (.lst acc) ∧ Al (OwAt H') acc ((List.range m).map fun (g : Nat) => lastL kk (T + nf + 1 + 9) (near ws' (g : Int))))
              ⟨same_upd nD3, [], upd_same, Al.nil⟩ (fun m H' _ hh => True.intro) ?_ ?_
            · rintro m y H' H'' hm ⟨s', acc, hD3, hacc⟩ ⟨rfl, rfl⟩
              refine ⟨rfl, ?_⟩
              refine ⟨_, rfl, _, rfl, _, rfl, _, rfl, _, _, rfl, rfl, t, ko, .ref ta, wl, ws', 0 + (m : Int), T + nf + 1 + 9, rfl, (bk.same s').told.told, wsk.same s', wok', fun v' ho => ?_⟩
              rw [Int.zero_add] at ho
              have tp : Tups H'' (upd H'' D3 (.lst (acc ++ [v']))) := tups_lst hD3
              have hml : acc.length = m := by rw [hacc.1]; simp
              refine ⟨acc, hD3, szl (by omega), s'.mut nD3, acc ++ [v'], upd_same, ?_⟩
              rw [List.range_succ, List.map_append]
              exact Al.snoc (hacc.mono fun _ _ => OwAt.mono tp) (OwAt.mono tp ho)
            rintro Hl ⟨sl, eacc, hD3, heal⟩
            have hel : eacc.length = t.regs.toNat := by rw [heal.1]; simp
            -- due
            have bl := bk.same sl
            have wsl := wsk.same sl
            refine ⟨_, rfl, D3, eacc, rfl, SqL.of hD3, fun D4 nD4 => lc_it (walk_enum (xs := eacc)) (fun m H' => Same Hl H' ∧ H' D4 = some (.lst ((List.range m).map fun (g : Nat) => V.bl (endL kk (T + nf + 1 + 9) (near ws' (g : Int))))))
              ⟨same_upd nD4, upd_same⟩ (fun m H' _ hh => SqL.of (hh.1 _ _ hD3)) ?_ ?_⟩
            · rintro m y H' H'' hm ⟨s', hD4⟩ ⟨T1, y1, y2, rfl, nT1, rfl, f1, f2⟩
              cases f1
              have sT1 := same_upd (o := HO.tup [V.int (m : Nat), y2]) nT1
              generalize hH1 : upd H' T1 (HO.tup [V.int (m : Nat), y2]) = H1' at sT1
              have hT1 : H1' T1 = some (.tup [.int (m : Nat), y2]) := by rw [← hH1]; exact upd_same
              have s'' := s'.trans sT1
              obtain ⟨ow, how, hy2⟩ := heal.at f2
              have hml : m < t.regs.toNat := by rw [← hel]; exact hm
              have eow : ow = lastL kk (T + nf + 1 + 9) (near ws' (m : Int)) := by
                rw [List.getElem?_map, List.getElem?_range hml] at how
                exact (Option.some.inj how).symm
              have hy2' := OwAt.mono s''.tups hy2
              have fin : ∀ H3 (x : Int), Same H1' H3 → x = plc ow → (rEq (.int x) (.int (newest (near ws' (m : Int)))) H3 fun y H4 => ∃ acc, H4 D4 = some (.lst acc) ∧ acc.length < sizeLine ∧ (Same Hl (upd H4 D4 (.lst (acc ++ [y]))) ∧ (upd H4 D4 (.lst (acc ++ [y]))) D4 = some (.lst ((List.range (m + 1)).map fun (g : Nat) => V.bl (endL kk (T + nf + 1 + 9) (near ws' (g : Int))))))) := by
                intro H3 x s3 ex
                refine ⟨rfl, _, s3 _ _ (sT1 _ _ hD4), ?_, (s''.trans s3).mut nD4, ?_⟩
                · rw [List.length_map, List.length_range]; exact szl (by omega)
                · rw [upd_same, List.range_succ, List.map_append, dec_int, ex, eow]; rfl
              refine ⟨T1, _, rfl, SqT.of hT1, rfl, _, _, rfl, _, _, rfl, rfl, rfl, ?_⟩
              refine ⟨_, rfl, rfl, _, rfl, ?_⟩
              cases how2 : ow with
              | none =>
                rw [how2] at hy2'
                have e2 : y2 = .non := hy2'
                subst e2
                refine iteT ⟨_, rfl, _, rfl, _, rfl, wl, ws', (m : Int), rfl, wsl.same s'', by have := wok'.sz; omega, fun H3 s3 => ?_⟩
                exact fin H3 (-1) s3 (by rw [how2]; rfl)
              | some u =>
                rw [how2] at hy2'
                obtain ⟨cu, rfl, hcu⟩ : WrAt H1' y2 u := hy2'
                refine iteF ⟨_, rfl, cu, _, 0, _, rfl, rfl, SqT.of hcu, rfl, _, rfl, _, rfl, wl, ws', (m : Int), rfl, wsl.same s'', by have := wok'.sz; omega, fun H3 s3 => ?_⟩
                exact fin H3 u.place s3 (by rw [how2]; rfl)
            rintro Hm ⟨sm, hD4⟩
            rw [hel] at hD4
            have sgm := (sgk.trans sl).trans sm
            have bm := bg.same sgm
            have cm := cg.same sgm
            obtain ⟨dxm, hpm⟩ := id bm.pipe
            have lok9 := winv'.lsok (n := n) (B := T + nf + 1 + 9) (by omega) hlen3 (by omega) hn
            -- ends_right
            refine ⟨_, rfl, p, dxm, _, rfl, hpm, pfl_m (by decide +kernel) (by decide +kernel) (by decide +kernel) (by decide +kernel) (by decide +kernel), _, rfl, t, ko, p, kdA, c, sv', T + nf + 1, T + nf + 1 + 9, byGoal n ws', rfl, ⟨dxm, hpm⟩, bm.kd, stg.mono sgm.tups, lok9, winv'.pok, fun Hn sn => ?_⟩
            have sgn := sgm.trans sn
            refine ⟨_, rfl, D4, (List.range t.regs.toNat).map (fun (g : Nat) => endL kk (T + nf + 1 + 9) (near ws' (g : Int))), rfl, ?_, rfl, _, rfl, ?_⟩
            · rw [List.map_map]; exact SqL.of (sn _ _ hD4)
            have eall : ((List.range t.regs.toNat).map (fun (g : Nat) => endL kk (T + nf + 1 + 9) (near ws' (g : Int)))).all id = (byGoal n ws').all (endL kk (T + nf + 1 + 9)) := by
              unfold byGoal
              rw [List.all_map, List.all_map]; rfl
            rw [eall, decide_eq_true rfl]
            refine iteF ?_
            exact ⟨bg.same sgn, sgn _ _ hDg, palg.mono fun _ _ => InAt.mono sgn.tups, ⟨xsf, cg.same sgn, by omega⟩, ws', T + nf + 1, sv', wsg.same sgn, winv', stg.mono sgn.tups, _, _, _, _, _, _, _, _, _, _, _, _, rfl⟩
      · rintro σ' Ha ⟨ba, hDa, pala, ⟨xsa, ca, la⟩, ws, T, sv, hwsa, winv, sta, u9, u10, u11, u12, u13, u14, u15, u16, u17, u18, u19, u20, rfl⟩
        have h8 : pgv.length = 8 := by rw [pala.1, hplen8]
        rw [h8] at la
        exact ⟨ba, ⟨xsa, ca, by omega⟩, _, _, _, _, _, _, _, _, _, _, _, _, _, _, _, _, _, rfl⟩
    · rintro σ' H' _
      exact k H'
end
end K3
namespace K3
open PySem PySem.Spec PyProof.Rows L2
theorem all_mk {l : PySem.W.OpenLaw} {w : World} {K : PySem.W.Frag} {h : Heap} {mg : Str → Option Value} {fa C : Addr} (X : K.In h) (G : h.Ns mainGlobals mg) (hfa : mg "law" = some (.ref fa))
    {fNum : Addr} {odNum anNum : Option Addr} {slNum : Array (Option Value)} {ocNum kVNum dcNum pmNum cdNum ctNum : Value}
    {fCan : Addr} {odCan anCan : Option Addr} {slCan : Array (Option Value)} {ocCan kVCan dcCan pmCan cdCan ctCan : Value}
    {fHeld : Addr} {odHeld anHeld : Option Addr} {slHeld : Array (Option Value)} {ocHeld kVHeld dcHeld pmHeld cdHeld ctHeld : Value}
    {fGrown : Addr} {odGrown anGrown : Option Addr} {slGrown : Array (Option Value)} {ocGrown kVGrown dcGrown pmGrown cdGrown ctGrown : Value}
    {fAged : Addr} {odAged anAged : Option Addr} {slAged : Array (Option Value)} {ocAged kVAged dcAged pmAged cdAged ctAged : Value}
    {fEnded : Addr} {odEnded anEnded : Option Addr} {slEnded : Array (Option Value)} {ocEnded kVEnded dcEnded pmEnded cdEnded ctEnded : Value}
    {fPut : Addr} {odPut anPut : Option Addr} {slPut : Array (Option Value)} {ocPut kVPut dcPut pmPut cdPut ctPut : Value}
    {fAreK : Addr} {odAreK anAreK : Option Addr} {slAreK : Array (Option Value)} {ocAreK kVAreK dcAreK pmAreK cdAreK ctAreK : Value}
    {fIsKW : Addr} {odIsKW anIsKW : Option Addr} {slIsKW : Array (Option Value)} {ocIsKW kVIsKW dcIsKW pmIsKW cdIsKW ctIsKW : Value}
    {fIsK : Addr} {odIsK anIsK : Option Addr} {slIsK : Array (Option Value)} {ocIsK kVIsK dcIsK pmIsK cdIsK ctIsK : Value}
    {fDraw : Addr} {odDraw anDraw : Option Addr} {slDraw : Array (Option Value)} {ocDraw kVDraw dcDraw pmDraw cdDraw ctDraw : Value}
    {fSet : Addr} {odSet anSet : Option Addr} {slSet : Array (Option Value)} {ocSet kVSet dcSet pmSet cdSet ctSet : Value}
    {fPipe : Addr} {odPipe anPipe : Option Addr} {slPipe : Array (Option Value)} {ocPipe kVPipe dcPipe pmPipe cdPipe ctPipe : Value}
    {fRows : Addr} {odRows anRows : Option Addr} {slRows : Array (Option Value)} {ocRows kVRows dcRows pmRows cdRows ctRows : Value}
    {fThere : Addr} {odThere anThere : Option Addr} {slThere : Array (Option Value)} {ocThere kVThere dcThere pmThere cdThere ctThere : Value}
    {fLast : Addr} {odLast anLast : Option Addr} {slLast : Array (Option Value)} {ocLast kVLast dcLast pmLast cdLast ctLast : Value}
    {fLHeld : Addr} {odLHeld anLHeld : Option Addr} {slLHeld : Array (Option Value)} {ocLHeld kVLHeld dcLHeld pmLHeld cdLHeld ctLHeld : Value}
    {fRead : Addr} {odRead anRead : Option Addr} {slRead : Array (Option Value)} {ocRead kVRead dcRead pmRead cdRead ctRead : Value}
    {fStand : Addr} {odStand anStand : Option Addr} {slStand : Array (Option Value)} {ocStand kVStand dcStand pmStand cdStand ctStand : Value}
    {fNewest : Addr} {odNewest anNewest : Option Addr} {slNewest : Array (Option Value)} {ocNewest kVNewest dcNewest pmNewest cdNewest ctNewest : Value}
    {fLaw : Addr} {odLaw anLaw : Option Addr} {slLaw : Array (Option Value)} {ocLaw kVLaw dcLaw pmLaw cdLaw ctLaw : Value}
    {fInit : Addr} {odInit anInit : Option Addr} {slInit : Array (Option Value)} {ocInit kVInit dcInit pmInit cdInit ctInit : Value}
    {fStart : Addr} {odStart anStart : Option Addr} {slStart : Array (Option Value)} {ocStart kVStart dcStart pmStart cdStart ctStart : Value}
    {fFollow : Addr} {odFollow anFollow : Option Addr} {slFollow : Array (Option Value)} {ocFollow kVFollow dcFollow pmFollow cdFollow ctFollow : Value}
    {fLater : Addr} {odLater anLater : Option Addr} {slLater : Array (Option Value)} {ocLater kVLater dcLater pmLater cdLater ctLater : Value}
    {fEnds : Addr} {odEnds anEnds : Option Addr} {slEnds : Array (Option Value)} {ocEnds kVEnds dcEnds pmEnds cdEnds ctEnds : Value}
    {tW tP tG tJ tL tm1 tm2 tm3 tm4 tm5 : Tok}
    (aC : PySem.W.nsIn K mainGlobals "Pipe" = some (some (.ref C)))
    (aNum : PySem.W.nsIn K mainGlobals "is_number" = some (some (.ref fNum))) (lNum : K.lookup fNum = some ⟨ocNum, odNum, .func (PySem.W.fnOf "is_number" "is_number" (defArgs sNum) (defBody sNum) (defScope sNum) .none kVNum dcNum pmNum anNum cdNum ctNum), slNum⟩) (cNum : PySem.W.codeIn K cdNum "is_number" = true) (kNum : PySem.W.keepIn K (.ref fNum) = true)
    (aCan : PySem.W.nsIn K mainGlobals "can_be_read" = some (some (.ref fCan))) (lCan : K.lookup fCan = some ⟨ocCan, odCan, .func (PySem.W.fnOf "can_be_read" "can_be_read" (defArgs sCan) (defBody sCan) (defScope sCan) .none kVCan dcCan pmCan anCan cdCan ctCan), slCan⟩) (cCan : PySem.W.codeIn K cdCan "can_be_read" = true) (kCan : PySem.W.keepIn K (.ref fCan) = true)
    (aHeld : PySem.W.nsIn K mainGlobals "is_held" = some (some (.ref fHeld))) (lHeld : K.lookup fHeld = some ⟨ocHeld, odHeld, .func (PySem.W.fnOf "is_held" "is_held" (defArgs sHeld) (defBody sHeld) (defScope sHeld) .none kVHeld dcHeld pmHeld anHeld cdHeld ctHeld), slHeld⟩) (cHeld : PySem.W.codeIn K cdHeld "is_held" = true) (kHeld : PySem.W.keepIn K (.ref fHeld) = true)
    (aGrown : PySem.W.nsIn K mainGlobals "grown" = some (some (.ref fGrown))) (lGrown : K.lookup fGrown = some ⟨ocGrown, odGrown, .func (PySem.W.fnOf "grown" "grown" (defArgs sGrown) (defBody sGrown) (defScope sGrown) .none kVGrown dcGrown pmGrown anGrown cdGrown ctGrown), slGrown⟩) (cGrown : PySem.W.codeIn K cdGrown "grown" = true) (kGrown : PySem.W.keepIn K (.ref fGrown) = true)
    (aAged : PySem.W.nsIn K mainGlobals "aged" = some (some (.ref fAged))) (lAged : K.lookup fAged = some ⟨ocAged, odAged, .func (PySem.W.fnOf "aged" "aged" (defArgs sAged) (defBody sAged) (defScope sAged) .none kVAged dcAged pmAged anAged cdAged ctAged), slAged⟩) (cAged : PySem.W.codeIn K cdAged "aged" = true) (kAged : PySem.W.keepIn K (.ref fAged) = true)
    (aEnded : PySem.W.nsIn K mainGlobals "ended" = some (some (.ref fEnded))) (lEnded : K.lookup fEnded = some ⟨ocEnded, odEnded, .func (PySem.W.fnOf "ended" "ended" (defArgs sEnded) (defBody sEnded) (defScope sEnded) .none kVEnded dcEnded pmEnded anEnded cdEnded ctEnded), slEnded⟩) (cEnded : PySem.W.codeIn K cdEnded "ended" = true) (kEnded : PySem.W.keepIn K (.ref fEnded) = true)
    (aPut : PySem.W.nsIn K mainGlobals "put_under_way" = some (some (.ref fPut))) (lPut : K.lookup fPut = some ⟨ocPut, odPut, .func (PySem.W.fnOf "put_under_way" "put_under_way" (defArgs sPut) (defBody sPut) (defScope sPut) .none kVPut dcPut pmPut anPut cdPut ctPut), slPut⟩) (cPut : PySem.W.codeIn K cdPut "put_under_way" = true) (kPut : PySem.W.keepIn K (.ref fPut) = true)
    (aAreK : PySem.W.nsIn K mainGlobals "are_kinds" = some (some (.ref fAreK))) (lAreK : K.lookup fAreK = some ⟨ocAreK, odAreK, .func (PySem.W.fnOf "are_kinds" "are_kinds" (defArgs sAreK) (defBody sAreK) (defScope sAreK) .none kVAreK dcAreK pmAreK anAreK cdAreK ctAreK), slAreK⟩) (cAreK : PySem.W.codeIn K cdAreK "are_kinds" = true) (kAreK : PySem.W.keepIn K (.ref fAreK) = true)
    (aIsKW : PySem.W.nsIn K mainGlobals "is_word" = some (some (.ref fIsKW))) (lIsKW : K.lookup fIsKW = some ⟨ocIsKW, odIsKW, .func (PySem.W.fnOf "is_word" "is_word" (defArgs sIsKW) (defBody sIsKW) (defScope sIsKW) .none kVIsKW dcIsKW pmIsKW anIsKW cdIsKW ctIsKW), slIsKW⟩) (cIsKW : PySem.W.codeIn K cdIsKW "is_word" = true) (kIsKW : PySem.W.keepIn K (.ref fIsKW) = true)
    (aIsK : PySem.W.nsIn K mainGlobals "is_kind" = some (some (.ref fIsK))) (lIsK : K.lookup fIsK = some ⟨ocIsK, odIsK, .func (PySem.W.fnOf "is_kind" "is_kind" (defArgs sIsK) (defBody sIsK) (defScope sIsK) .none kVIsK dcIsK pmIsK anIsK cdIsK ctIsK), slIsK⟩) (cIsK : PySem.W.codeIn K cdIsK "is_kind" = true) (kIsK : PySem.W.keepIn K (.ref fIsK) = true)
    (aDraw : PySem.W.nsIn K mainGlobals "_law_draw" = some (some (.ref fDraw))) (lDraw : K.lookup fDraw = some ⟨ocDraw, odDraw, .func (PySem.W.fnOf "_law_draw" "_law_draw" (defArgs sDraw) (defBody sDraw) (defScope sDraw) .none kVDraw dcDraw pmDraw anDraw cdDraw ctDraw), slDraw⟩) (cDraw : PySem.W.codeIn K cdDraw "_law_draw" = true) (kDraw : PySem.W.keepIn K (.ref fDraw) = true)
    (aSet : PySem.W.nsIn K mainGlobals "_law_settings" = some (some (.ref fSet))) (lSet : K.lookup fSet = some ⟨ocSet, odSet, .func (PySem.W.fnOf "_law_settings" "_law_settings" (defArgs sSet) (defBody sSet) (defScope sSet) .none kVSet dcSet pmSet anSet cdSet ctSet), slSet⟩) (cSet : PySem.W.codeIn K cdSet "_law_settings" = true) (kSet : PySem.W.keepIn K (.ref fSet) = true)
    (aPipe : PySem.W.nsIn K mainGlobals "_law_pipe" = some (some (.ref fPipe))) (lPipe : K.lookup fPipe = some ⟨ocPipe, odPipe, .func (PySem.W.fnOf "_law_pipe" "_law_pipe" (defArgs sPipe) (defBody sPipe) (defScope sPipe) .none kVPipe dcPipe pmPipe anPipe cdPipe ctPipe), slPipe⟩) (cPipe : PySem.W.codeIn K cdPipe "_law_pipe" = true) (kPipe : PySem.W.keepIn K (.ref fPipe) = true)
    (aRows : PySem.W.nsIn K mainGlobals "_law_rows" = some (some (.ref fRows))) (lRows : K.lookup fRows = some ⟨ocRows, odRows, .func (PySem.W.fnOf "_law_rows" "_law_rows" (defArgs sRows) (defBody sRows) (defScope sRows) .none kVRows dcRows pmRows anRows cdRows ctRows), slRows⟩) (cRows : PySem.W.codeIn K cdRows "_law_rows" = true) (kRows : PySem.W.keepIn K (.ref fRows) = true)
    (aThere : PySem.W.nsIn K mainGlobals "_law_there" = some (some (.ref fThere))) (lThere : K.lookup fThere = some ⟨ocThere, odThere, .func (PySem.W.fnOf "_law_there" "_law_there" (defArgs sThere) (defBody sThere) (defScope sThere) .none kVThere dcThere pmThere anThere cdThere ctThere), slThere⟩) (cThere : PySem.W.codeIn K cdThere "_law_there" = true) (kThere : PySem.W.keepIn K (.ref fThere) = true)
    (aLast : PySem.W.nsIn K mainGlobals "_law_last" = some (some (.ref fLast))) (lLast : K.lookup fLast = some ⟨ocLast, odLast, .func (PySem.W.fnOf "_law_last" "_law_last" (defArgs sLast) (defBody sLast) (defScope sLast) .none kVLast dcLast pmLast anLast cdLast ctLast), slLast⟩) (cLast : PySem.W.codeIn K cdLast "_law_last" = true) (kLast : PySem.W.keepIn K (.ref fLast) = true)
    (aLHeld : PySem.W.nsIn K mainGlobals "_law_held" = some (some (.ref fLHeld))) (lLHeld : K.lookup fLHeld = some ⟨ocLHeld, odLHeld, .func (PySem.W.fnOf "_law_held" "_law_held" (defArgs sLHeld) (defBody sLHeld) (defScope sLHeld) .none kVLHeld dcLHeld pmLHeld anLHeld cdLHeld ctLHeld), slLHeld⟩) (cLHeld : PySem.W.codeIn K cdLHeld "_law_held" = true) (kLHeld : PySem.W.keepIn K (.ref fLHeld) = true)
    (aRead : PySem.W.nsIn K mainGlobals "_law_read" = some (some (.ref fRead))) (lRead : K.lookup fRead = some ⟨ocRead, odRead, .func (PySem.W.fnOf "_law_read" "_law_read" (defArgs sRead) (defBody sRead) (defScope sRead) .none kVRead dcRead pmRead anRead cdRead ctRead), slRead⟩) (cRead : PySem.W.codeIn K cdRead "_law_read" = true) (kRead : PySem.W.keepIn K (.ref fRead) = true)
    (aStand : PySem.W.nsIn K mainGlobals "_law_standing" = some (some (.ref fStand))) (lStand : K.lookup fStand = some ⟨ocStand, odStand, .func (PySem.W.fnOf "_law_standing" "_law_standing" (defArgs sStand) (defBody sStand) (defScope sStand) .none kVStand dcStand pmStand anStand cdStand ctStand), slStand⟩) (cStand : PySem.W.codeIn K cdStand "_law_standing" = true) (kStand : PySem.W.keepIn K (.ref fStand) = true)
    (aNewest : PySem.W.nsIn K mainGlobals "_law_newest" = some (some (.ref fNewest))) (lNewest : K.lookup fNewest = some ⟨ocNewest, odNewest, .func (PySem.W.fnOf "_law_newest" "_law_newest" (defArgs sNewest) (defBody sNewest) (defScope sNewest) .none kVNewest dcNewest pmNewest anNewest cdNewest ctNewest), slNewest⟩) (cNewest : PySem.W.codeIn K cdNewest "_law_newest" = true) (kNewest : PySem.W.keepIn K (.ref fNewest) = true)
    (aLaw : PySem.W.nsIn K mainGlobals "law" = some (some (.ref fLaw))) (lLaw : K.lookup fLaw = some ⟨ocLaw, odLaw, .func (PySem.W.fnOf "law" "law" (defArgs sLaw) (defBody sLaw) (defScope sLaw) .none kVLaw dcLaw pmLaw anLaw cdLaw ctLaw), slLaw⟩) (cLaw : PySem.W.codeIn K cdLaw "law" = true) (kLaw : PySem.W.keepIn K (.ref fLaw) = true)
    (aInit : PySem.W.findIn K (.ref C) "__init__" = some (some (.ref fInit))) (iInit : PySem.W.isFn K (.ref fInit) = true) (lInit : K.lookup fInit = some ⟨ocInit, odInit, .func (PySem.W.fnOf "__init__" "Pipe.__init__" (defArgs sInit) (defBody sInit) (defScope sInit) .none kVInit dcInit pmInit anInit cdInit ctInit), slInit⟩) (cInit : PySem.W.codeIn K cdInit "Pipe.__init__" = true) (kInit : PySem.W.keepIn K (.ref fInit) = true)
    (aStart : PySem.W.findIn K (.ref C) "start" = some (some (.ref fStart))) (iStart : PySem.W.isFn K (.ref fStart) = true) (lStart : K.lookup fStart = some ⟨ocStart, odStart, .func (PySem.W.fnOf "start" "Pipe.start" (defArgs sStart) (defBody sStart) (defScope sStart) .none kVStart dcStart pmStart anStart cdStart ctStart), slStart⟩) (cStart : PySem.W.codeIn K cdStart "Pipe.start" = true) (kStart : PySem.W.keepIn K (.ref fStart) = true)
    (aFollow : PySem.W.findIn K (.ref C) "follow" = some (some (.ref fFollow))) (iFollow : PySem.W.isFn K (.ref fFollow) = true) (lFollow : K.lookup fFollow = some ⟨ocFollow, odFollow, .func (PySem.W.fnOf "follow" "Pipe.follow" (defArgs sFollow) (defBody sFollow) (defScope sFollow) .none kVFollow dcFollow pmFollow anFollow cdFollow ctFollow), slFollow⟩) (cFollow : PySem.W.codeIn K cdFollow "Pipe.follow" = true) (kFollow : PySem.W.keepIn K (.ref fFollow) = true)
    (aLater : PySem.W.findIn K (.ref C) "later" = some (some (.ref fLater))) (iLater : PySem.W.isFn K (.ref fLater) = true) (lLater : K.lookup fLater = some ⟨ocLater, odLater, .func (PySem.W.fnOf "later" "Pipe.later" (defArgs sLater) (defBody sLater) (defScope sLater) .none kVLater dcLater pmLater anLater cdLater ctLater), slLater⟩) (cLater : PySem.W.codeIn K cdLater "Pipe.later" = true) (kLater : PySem.W.keepIn K (.ref fLater) = true)
    (aEnds : PySem.W.findIn K (.ref C) "ends_right" = some (some (.ref fEnds))) (iEnds : PySem.W.isFn K (.ref fEnds) = true) (lEnds : K.lookup fEnds = some ⟨ocEnds, odEnds, .func (PySem.W.fnOf "ends_right" "Pipe.ends_right" (defArgs sEnds) (defBody sEnds) (defScope sEnds) .none kVEnds dcEnds pmEnds anEnds cdEnds ctEnds), slEnds⟩) (cEnds : PySem.W.codeIn K cdEnds "Pipe.ends_right" = true) (kEnds : PySem.W.keepIn K (.ref fEnds) = true)
    (pg : PySem.W.plainGet K C Str.empty = true) (hd : PySem.W.hasDictIn K C = true) (po : PySem.W.plainOver K C = true) (sa : PySem.W.findIn K (.ref C) "__setattr__" = some (some (.builtin "object.__setattr__"))) (mk : PySem.W.makesIn K C = true) (kc : PySem.W.keepIn K (.ref C) = true)
    (n0 : PySem.W.findIn K (.ref C) "registers" = some none)
    (n1 : PySem.W.findIn K (.ref C) "kinds" = some none)
    (n2 : PySem.W.findIn K (.ref C) "holds" = some none)
    (n3 : PySem.W.findIn K (.ref C) "orders" = some none)
    (n4 : PySem.W.findIn K (.ref C) "_aged" = some none)
    (gW : PySem.W.nsIn K mainGlobals "WRITTEN" = some (some (.str "" tW)))
    (gP : PySem.W.nsIn K mainGlobals "PRESENT" = some (some (.int 0 tP)))
    (gG : PySem.W.nsIn K mainGlobals "GONE" = some (some (.int 1 tG)))
    (gJ : PySem.W.nsIn K mainGlobals "JUST" = some (some (.int 2 tJ)))
    (gL : PySem.W.nsIn K mainGlobals "LETTERS" = some (some (.str "abcdefghijklmnopqrstuvwxyz" tL)))
    (gm1 : PySem.W.nsIn K mainGlobals "MOST_REGISTERS" = some (some (.int 4 tm1)))
    (gm2 : PySem.W.nsIn K mainGlobals "MOST_KINDS" = some (some (.int 4 tm2)))
    (gm3 : PySem.W.nsIn K mainGlobals "MOST_SOURCES" = some (some (.int 2 tm3)))
    (gm4 : PySem.W.nsIn K mainGlobals "LONGEST" = some (some (.int 4 tm4)))
    (gm5 : PySem.W.nsIn K mainGlobals "LONGEST_WORD" = some (some (.int 8 tm5)))
    (z0 : PySem.W.nsIn K mainGlobals "isinstance" = some none)
    (z1 : PySem.W.nsIn K mainGlobals "int" = some none)
    (z2 : PySem.W.nsIn K mainGlobals "bool" = some none)
    (z3 : PySem.W.nsIn K mainGlobals "str" = some none)
    (z4 : PySem.W.nsIn K mainGlobals "tuple" = some none)
    (z5 : PySem.W.nsIn K mainGlobals "dict" = some none)
    (z6 : PySem.W.nsIn K mainGlobals "list" = some none)
    (z7 : PySem.W.nsIn K mainGlobals "len" = some none)
    (z8 : PySem.W.nsIn K mainGlobals "all" = some none)
    (z9 : PySem.W.nsIn K mainGlobals "any" = some none)
    (z10 : PySem.W.nsIn K mainGlobals "max" = some none)
    (z11 : PySem.W.nsIn K mainGlobals "sorted" = some none)
    (z12 : PySem.W.nsIn K mainGlobals "enumerate" = some none)
    (z13 : PySem.W.nsIn K mainGlobals "range" = some none)
    : ∃ fd : FuncData, (∀ (s : Shared) (v : Value), BindsTo s fd ⟨[v], []⟩ [("script", v)]) ∧ ∀ base : Heap, K.In base → base.Ns mainGlobals mg → FnOk l.prog w K mg base CX0 7 fa fd ["script"] (spLaw K) := by
  have e := hfa.symm.trans (PySem.W.mg_of X G aLaw)
  cases e
  have T : Txt K mg := ⟨⟨_, PySem.W.mg_of X G gW, _, rfl⟩, ⟨_, PySem.W.mg_of X G gP, _, rfl⟩, ⟨_, PySem.W.mg_of X G gG, _, rfl⟩, ⟨_, PySem.W.mg_of X G gJ, _, rfl⟩, ⟨_, PySem.W.mg_of X G gL, _, rfl⟩, ⟨_, PySem.W.mg_of X G gm1, _, rfl⟩, ⟨_, PySem.W.mg_of X G gm2, _, rfl⟩, ⟨_, PySem.W.mg_of X G gm3, _, rfl⟩, ⟨_, PySem.W.mg_of X G gm4, _, rfl⟩, ⟨_, PySem.W.mg_of X G gm5, _, rfl⟩,
    PySem.W.mg_none_of X G z0, PySem.W.mg_none_of X G z1, PySem.W.mg_none_of X G z2, PySem.W.mg_none_of X G z3, PySem.W.mg_none_of X G z4, PySem.W.mg_none_of X G z5, PySem.W.mg_none_of X G z6, PySem.W.mg_none_of X G z7, PySem.W.mg_none_of X G z8, PySem.W.mg_none_of X G z9, PySem.W.mg_none_of X G z10, PySem.W.mg_none_of X G z11, PySem.W.mg_none_of X G z12, PySem.W.mg_none_of X G z13⟩
  have TC : TxtC K mg C := ⟨⟨pg, hd, po, sa⟩, n0, n1, n2, n3, n4, PySem.W.mg_of X G aC⟩
  have FNum := fun_mk (st := sNum) lNum cNum kNum
  have FCan := fun_mk (st := sCan) lCan cCan kCan
  have FHeld := fun_mk (st := sHeld) lHeld cHeld kHeld
  have FGrown := fun_mk (st := sGrown) lGrown cGrown kGrown
  have FAged := fun_mk (st := sAged) lAged cAged kAged
  have FEnded := fun_mk (st := sEnded) lEnded cEnded kEnded
  have FPut := fun_mk (st := sPut) lPut cPut kPut
  have FAreK := fun_mk (st := sAreK) lAreK cAreK kAreK
  have FIsKW := fun_mk (st := sIsKW) lIsKW cIsKW kIsKW
  have FIsK := fun_mk (st := sIsK) lIsK cIsK kIsK
  have FDraw := fun_mk (st := sDraw) lDraw cDraw kDraw
  have FSet := fun_mk (st := sSet) lSet cSet kSet
  have FPipe := fun_mk (st := sPipe) lPipe cPipe kPipe
  have FRows := fun_mk (st := sRows) lRows cRows kRows
  have FThere := fun_mk (st := sThere) lThere cThere kThere
  have FLast := fun_mk (st := sLast) lLast cLast kLast
  have FLHeld := fun_mk (st := sLHeld) lLHeld cLHeld kLHeld
  have FRead := fun_mk (st := sRead) lRead cRead kRead
  have FStand := fun_mk (st := sStand) lStand cStand kStand
  have FNewest := fun_mk (st := sNewest) lNewest cNewest kNewest
  have FLaw := fun_mk (st := sLaw) lLaw cLaw kLaw
  have FInit := fun_mk (st := sInit) lInit cInit kInit
  have FStart := fun_mk (st := sStart) lStart cStart kStart
  have FFollow := fun_mk (st := sFollow) lFollow cFollow kFollow
  have FLater := fun_mk (st := sLater) lLater cLater kLater
  have FEnds := fun_mk (st := sEnds) lEnds cEnds kEnds
  have bNum := FNum.binds (ps := ["thing"]) fun _ _ _ _ _ _ us hl => match us, hl with | [_], _ => rfl
  have bCan := FCan.binds (ps := ["kinds", "entry"]) fun _ _ _ _ _ _ us hl => match us, hl with | [_, _], _ => rfl
  have bHeld := FHeld.binds (ps := ["pipe", "standing", "instruction"]) fun _ _ _ _ _ _ us hl => match us, hl with | [_, _, _], _ => rfl
  have bGrown := FGrown.binds (ps := ["kinds", "entry"]) fun _ _ _ _ _ _ us hl => match us, hl with | [_, _], _ => rfl
  have bAged := FAged.binds (ps := ["kinds", "entries"]) fun _ _ _ _ _ _ us hl => match us, hl with | [_, _], _ => rfl
  have bEnded := FEnded.binds (ps := ["kinds", "entries"]) fun _ _ _ _ _ _ us hl => match us, hl with | [_, _], _ => rfl
  have bPut := FPut.binds (ps := ["standing", "instruction", "more"]) fun _ _ _ _ _ _ us hl => match us, hl with | [_, _, _], _ => rfl
  have bAreK := FAreK.binds (ps := ["kinds"]) fun _ _ _ _ _ _ us hl => match us, hl with | [_], _ => rfl
  have bIsKW := FIsKW.binds (ps := ["thing"]) fun _ _ _ _ _ _ us hl => match us, hl with | [_], _ => rfl
  have bIsK := FIsK.binds (ps := ["thing"]) fun _ _ _ _ _ _ us hl => match us, hl with | [_], _ => rfl
  have bDraw := FDraw.binds (ps := ["script", "at", "many"]) fun _ _ _ _ _ _ us hl => match us, hl with | [_, _, _], _ => rfl
  have bSet := FSet.binds (ps := ["script", "at"]) fun _ _ _ _ _ _ us hl => match us, hl with | [_, _], _ => rfl
  have bPipe := FPipe.binds (ps := ["told"]) fun _ _ _ _ _ _ us hl => match us, hl with | [_], _ => rfl
  have bRows := FRows.binds (ps := ["told"]) fun _ _ _ _ _ _ us hl => match us, hl with | [_], _ => rfl
  have bThere := FThere.binds (ps := ["told", "writer", "tick"]) fun _ _ _ _ _ _ us hl => match us, hl with | [_, _, _], _ => rfl
  have bLast := FLast.binds (ps := ["told", "writers", "goal", "tick"]) fun _ _ _ _ _ _ us hl => match us, hl with | [_, _, _, _], _ => rfl
  have bLHeld := FLHeld.binds (ps := ["told", "writers", "one", "tick"]) fun _ _ _ _ _ _ us hl => match us, hl with | [_, _, _, _], _ => rfl
  have bRead := FRead.binds (ps := ["told", "writers", "source", "tick"]) fun _ _ _ _ _ _ us hl => match us, hl with | [_, _, _, _], _ => rfl
  have bStand := FStand.binds (ps := ["told", "writers", "tick"]) fun _ _ _ _ _ _ us hl => match us, hl with | [_, _, _], _ => rfl
  have bNewest := FNewest.binds (ps := ["writers", "goal"]) fun _ _ _ _ _ _ us hl => match us, hl with | [_, _], _ => rfl
  have bStart := FStart.binds (ps := ["self"]) fun _ _ _ _ _ _ us hl => match us, hl with | [_], _ => rfl
  have bFollow := FFollow.binds (ps := ["self", "standing", "instruction"]) fun _ _ _ _ _ _ us hl => match us, hl with | [_, _, _], _ => rfl
  have bLater := FLater.binds (ps := ["self", "standing"]) fun _ _ _ _ _ _ us hl => match us, hl with | [_, _], _ => rfl
  have bEnds := FEnds.binds (ps := ["self", "standing"]) fun _ _ _ _ _ _ us hl => match us, hl with | [_, _], _ => rfl
  have bInit : KBn K (PySem.W.fnOf "__init__" "Pipe.__init__" (defArgs sInit) (defBody sInit) (defScope sInit) .none kVInit dcInit pmInit anInit cdInit ctInit) ["self", "registers", "kinds", "holds", "orders"] 3 ["holds", "orders"] (fun us ws => us ++ ws) (fun vs zs => vs ++ zs) :=
    ⟨fun s us ws _ l1 l2 => .of_eq (match us, ws, l1, l2 with | [_, _, _], [_, _], _, _ => rfl), fun r1 r2 => Vals.append r1 r2⟩
  have gNum' := PySem.W.mg_of X G aNum
  have gCan' := PySem.W.mg_of X G aCan
  have gHeld' := PySem.W.mg_of X G aHeld
  have gGrown' := PySem.W.mg_of X G aGrown
  have gAged' := PySem.W.mg_of X G aAged
  have gEnded' := PySem.W.mg_of X G aEnded
  have gPut' := PySem.W.mg_of X G aPut
  have gAreK' := PySem.W.mg_of X G aAreK
  have gIsKW' := PySem.W.mg_of X G aIsKW
  have gIsK' := PySem.W.mg_of X G aIsK
  have gDraw' := PySem.W.mg_of X G aDraw
  have gSet' := PySem.W.mg_of X G aSet
  have gPipe' := PySem.W.mg_of X G aPipe
  have gRows' := PySem.W.mg_of X G aRows
  have gThere' := PySem.W.mg_of X G aThere
  have gLast' := PySem.W.mg_of X G aLast
  have gLHeld' := PySem.W.mg_of X G aLHeld
  have gRead' := PySem.W.mg_of X G aRead
  have gStand' := PySem.W.mg_of X G aStand
  have gNewest' := PySem.W.mg_of X G aNewest
  refine ⟨PySem.W.fnOf "law" "law" (defArgs sLaw) (defBody sLaw) (defScope sLaw) .none kVLaw dcLaw pmLaw anLaw cdLaw ctLaw, fun s v => .of_eq rfl, fun base _ _ => ?_⟩
  have dNum : Dfn l.prog w K mg base "is_number" 1 ["thing"] spNum fNum _ := ⟨ok_num FNum T, gNum', kNum, bNum⟩
  have dCan : ∀ ks : KT, Dfn l.prog w K mg base "can_be_read" 1 ["kinds", "entry"] (spCan ks) fCan _ := fun ks => ⟨ok_can FCan T, gCan', kCan, bCan⟩
  have dGrown : ∀ ks : KT, Dfn l.prog w K mg base "grown" 1 ["kinds", "entry"] (spGrown ks) fGrown _ := fun ks => ⟨ok_grown FGrown T, gGrown', kGrown, bGrown⟩
  have dAged : ∀ ks : KT, KOk ks → Dfn l.prog w K mg base "aged" 2 ["kinds", "entries"] (spAged ks) fAged _ := fun ks ko => ⟨ok_aged FAged T ko (dGrown ks), gAged', kAged, bAged⟩
  have dEnded : ∀ ks : KT, KOk ks → Dfn l.prog w K mg base "ended" 3 ["kinds", "entries"] (spEnded ks) fEnded _ := fun ks ko => ⟨ok_ended FEnded T ko (dAged ks ko), gEnded', kEnded, bEnded⟩
  have dPut : ∀ ks : KT, Dfn l.prog w K mg base "put_under_way" 1 ["standing", "instruction", "more"] (spPut ks) fPut _ := fun ks => ⟨ok_put FPut, gPut', kPut, bPut⟩
  have dHeld : ∀ ti : PI0, Dfn l.prog w K mg base "is_held" 2 ["pipe", "standing", "instruction"] (spHeld C ti) fHeld _ := fun ti => ⟨ok_held FHeld T TC (dCan ti.ks), gHeld', kHeld, bHeld⟩
  have dIsKW : Dfn l.prog w K mg base "is_word" 1 ["thing"] spIsKW fIsKW _ := ⟨ok_isKW FIsKW T, gIsKW', kIsKW, bIsKW⟩
  have dIsK : Dfn l.prog w K mg base "is_kind" 2 ["thing"] spIsK fIsK _ := ⟨ok_isK FIsK T dNum, gIsK', kIsK, bIsK⟩
  have dAreK : Dfn l.prog w K mg base "are_kinds" 3 ["kinds"] spAreK fAreK _ := ⟨ok_areK FAreK T dIsKW dIsK, gAreK', kAreK, bAreK⟩
  have oInit : FnOk l.prog w K mg base CX0 4 fInit _ ["self", "registers", "kinds", "holds", "orders"] (spInit l.prog w C) := ok_init FInit T TC dNum dAreK
  have dDraw : Dfn l.prog w K mg base "_law_draw" 1 ["script", "at", "many"] (spDraw K) fDraw _ := ⟨ok_draw FDraw T, gDraw', kDraw, bDraw⟩
  have dSet : Dfn l.prog w K mg base "_law_settings" 2 ["script", "at"] (spSet K) fSet _ := ⟨ok_set FSet T dDraw, gSet', kSet, bSet⟩
  have dPipe : Dfn l.prog w K mg base "_law_pipe" 6 ["told"] (spPipe l.prog w C) fPipe _ := ⟨ok_pipe FPipe TC ⟨mk, aInit, iInit, kc⟩ oInit bInit, gPipe', kPipe, bPipe⟩
  have dRows : Dfn l.prog w K mg base "_law_rows" 1 ["told"] spRows fRows _ := ⟨ok_rows FRows T, gRows', kRows, bRows⟩
  have dNewest : Dfn l.prog w K mg base "_law_newest" 1 ["writers", "goal"] spNewest fNewest _ := ⟨ok_newest FNewest, gNewest', kNewest, bNewest⟩
  have dThere : ∀ ti : PI0, Dfn l.prog w K mg base "_law_there" 1 ["told", "writer", "tick"] (spThere ti) fThere _ := fun ti => ⟨ok_there FThere, gThere', kThere, bThere⟩
  have dLast : ∀ ti : PI0, Dfn l.prog w K mg base "_law_last" 2 ["told", "writers", "goal", "tick"] (spLast ti) fLast _ := fun ti => ⟨ok_last FLast (dThere ti), gLast', kLast, bLast⟩
  have mLater : ∀ ti : PI0, KOk ti.ks → Dfm l.prog w K mg base C "later" 3 ["self", "standing"] (spLater l.prog w C ti) fLater _ := fun ti ko => ⟨ok_later FLater T TC (dAged ti.ks ko), ⟨aLater, iLater, kLater⟩, bLater⟩
  have mStart : Dfm l.prog w K mg base C "start" 1 ["self"] (exSp (spStart C)) fStart _ := ⟨FnOk.ex fun ti _ => ok_start FStart T TC, ⟨aStart, iStart, kStart⟩, bStart⟩
  have mFollow : Dfm l.prog w K mg base C "follow" 4 ["self", "standing", "instruction"] (exSp (spFollow l.prog w C)) fFollow _ :=
    ⟨FnOk.ex fun ti ko => ok_follow FFollow T TC ko (dHeld ti) (mLater ti ko) (dPut ti.ks) (dCan ti.ks), ⟨aFollow, iFollow, kFollow⟩, bFollow⟩
  have mEnds : Dfm l.prog w K mg base C "ends_right" 4 ["self", "standing"] (exSp (spEnds C)) fEnds _ := ⟨FnOk.ex fun ti ko => ok_ends FEnds T TC ko (dEnded ti.ks ko), ⟨aEnds, iEnds, kEnds⟩, bEnds⟩
  have dLHeld : Dfn l.prog w K mg base "_law_held" 2 ["told", "writers", "one", "tick"] (exSp spLHeld) fLHeld _ := ⟨FnOk.ex fun ti ko => ok_lheld FLHeld ko (dThere ti), gLHeld', kLHeld, bLHeld⟩
  have dRead : Dfn l.prog w K mg base "_law_read" 3 ["told", "writers", "source", "tick"] (exSp spRead) fRead _ := ⟨FnOk.ex fun ti ko => ok_read FRead T (dThere ti) (dLast ti), gRead', kRead, bRead⟩
  have dStand : Dfn l.prog w K mg base "_law_standing" 3 ["told", "writers", "tick"] (exSp spStand) fStand _ := ⟨FnOk.ex fun ti ko => ok_stand FStand T ko (dThere ti) (dLast ti), gStand', kStand, bStand⟩
  have dLast' : Dfn l.prog w K mg base "_law_last" 2 ["told", "writers", "goal", "tick"] (exSp spLast) fLast _ := ⟨FnOk.ex fun ti _ => (dLast ti).ok, gLast', kLast, bLast⟩
  exact ok_law FLaw T TC dSet dPipe dRows dDraw dNewest mStart dLHeld dRead dLast' dStand mFollow mEnds
theorem walk {l : PySem.W.OpenLaw} {q : Program} {loose : List Str} {XP : (Str → Option Value) → Heap → Prop} {YP : World → Heap → Prop} {d : DefRec} {K : Params → PySem.W.Frag} (hn : l.most = some 63) (hdf : d.params.defaults = [])
    (hY : ∀ (w : World) (h : Heap), YP w h → (K w.params).In h)
    (F : ∀ (w : World) (mg : Str → Option Value) (fa : Addr) (h : Heap), (K w.params).In h → h.Ns mainGlobals mg → mg d.name = some (.ref fa) →
      ∃ fd : FuncData, (∀ (s : Shared) (u : Value), BindsTo s fd ⟨[u], []⟩ [("script", u)]) ∧ ∀ base : Heap, (K w.params).In base → base.Ns mainGlobals mg → FnOk l.prog w (K w.params) mg base CX0 7 fa fd ["script"] (spLaw (K w.params))) :
    PySem.W.WalkO q loose XP YP l.row.toRowW d [] (fun f vs => PySem.call f vs) :=
  L2.walk_of (n := 63) (k := 7) (x := "script") (CX := fun _ => CX0) (sp := fun w => spLaw (K w.params)) hn (by decide) hdf ⟨rfl, by decide, by decide⟩ hY F (fun _ _ a ns hl _ hS => ⟨a, ns, rfl, hS, hl, fun _ => rfl⟩) fun _ _ _ _ _ z => z
end K3
open PySem PySem.W PyProof.Rows
set_option maxRecDepth 100000 in
set_option maxHeartbeats 0 in
theorem PySem.Challenge.cw_beatwires_k03_whole_standings_holds : PySem.Challenge.rw_beatwires_k03_whole_standings.Holds := by
  w_on; o_law; k_head; (case hw => w_witness2)
  k_fill
  refine K3.walk (l := PySem.Challenge.rw_beatwires_k03_whole_standings) rfl rfl (fun w h Y => PySem.W.kIn_of Y) ?F
  case F =>
    intro w mg fa h KX G hmg
    refine' K3.all_mk KX G hmg ?aC ?aNum ?lNum ?cNum ?kNum ?aCan ?lCan ?cCan ?kCan ?aHeld ?lHeld ?cHeld ?kHeld ?aGrown ?lGrown ?cGrown ?kGrown ?aAged ?lAged ?cAged ?kAged ?aEnded ?lEnded ?cEnded ?kEnded ?aPut ?lPut ?cPut ?kPut ?aAreK ?lAreK ?cAreK ?kAreK ?aIsKW ?lIsKW ?cIsKW ?kIsKW ?aIsK ?lIsK ?cIsK ?kIsK ?aDraw ?lDraw ?cDraw ?kDraw ?aSet ?lSet ?cSet ?kSet ?aPipe ?lPipe ?cPipe ?kPipe ?aRows ?lRows ?cRows ?kRows ?aThere ?lThere ?cThere ?kThere ?aLast ?lLast ?cLast ?kLast ?aLHeld ?lLHeld ?cLHeld ?kLHeld ?aRead ?lRead ?cRead ?kRead ?aStand ?lStand ?cStand ?kStand ?aNewest ?lNewest ?cNewest ?kNewest ?aLaw ?lLaw ?cLaw ?kLaw ?aInit ?iInit ?lInit ?cInit ?kInit ?aStart ?iStart ?lStart ?cStart ?kStart ?aFollow ?iFollow ?lFollow ?cFollow ?kFollow ?aLater ?iLater ?lLater ?cLater ?kLater ?aEnds ?iEnds ?lEnds ?cEnds ?kEnds ?pg ?hd ?po ?sa ?mk ?kc ?n0 ?n1 ?n2 ?n3 ?n4 ?gW ?gP ?gG ?gJ ?gL ?gm1 ?gm2 ?gm3 ?gm4 ?gm5 ?z0 ?z1 ?z2 ?z3 ?z4 ?z5 ?z6 ?z7 ?z8 ?z9 ?z10 ?z11 ?z12 ?z13
    (case aC => k_is); (case aNum => k_is); (case lNum => k_is); (case cNum => k_is); (case kNum => k_is); (case aCan => k_is)
    (case lCan => k_is); (case cCan => k_is); (case kCan => k_is); (case aHeld => k_is); (case lHeld => k_is); (case cHeld => k_is)
    (case kHeld => k_is); (case aGrown => k_is); (case lGrown => k_is); (case cGrown => k_is); (case kGrown => k_is); (case aAged => k_is)
    (case lAged => k_is); (case cAged => k_is); (case kAged => k_is); (case aEnded => k_is); (case lEnded => k_is); (case cEnded => k_is)
    (case kEnded => k_is); (case aPut => k_is); (case lPut => k_is); (case cPut => k_is); (case kPut => k_is); (case aAreK => k_is)
    (case lAreK => k_is); (case cAreK => k_is); (case kAreK => k_is); (case aIsKW => k_is); (case lIsKW => k_is); (case cIsKW => k_is)
    (case kIsKW => k_is); (case aIsK => k_is); (case lIsK => k_is); (case cIsK => k_is); (case kIsK => k_is); (case aDraw => k_is)
    (case lDraw => k_is); (case cDraw => k_is); (case kDraw => k_is); (case aSet => k_is); (case lSet => k_is); (case cSet => k_is)
    (case kSet => k_is); (case aPipe => k_is); (case lPipe => k_is); (case cPipe => k_is); (case kPipe => k_is); (case aRows => k_is)
    (case lRows => k_is); (case cRows => k_is); (case kRows => k_is); (case aThere => k_is); (case lThere => k_is); (case cThere => k_is)
    (case kThere => k_is); (case aLast => k_is); (case lLast => k_is); (case cLast => k_is); (case kLast => k_is); (case aLHeld => k_is)
    (case lLHeld => k_is); (case cLHeld => k_is); (case kLHeld => k_is); (case aRead => k_is); (case lRead => k_is); (case cRead => k_is)
    (case kRead => k_is); (case aStand => k_is); (case lStand => k_is); (case cStand => k_is); (case kStand => k_is); (case aNewest => k_is)
    (case lNewest => k_is); (case cNewest => k_is); (case kNewest => k_is); (case aLaw => k_is); (case lLaw => k_is); (case cLaw => k_is)
    (case kLaw => k_is); (case aInit => k_is); (case iInit => k_is); (case lInit => k_is); (case cInit => k_is); (case kInit => k_is)
    (case aStart => k_is); (case iStart => k_is); (case lStart => k_is); (case cStart => k_is); (case kStart => k_is); (case aFollow => k_is)
    (case iFollow => k_is); (case lFollow => k_is); (case cFollow => k_is); (case kFollow => k_is); (case aLater => k_is); (case iLater => k_is)
    (case lLater => k_is); (case cLater => k_is); (case kLater => k_is); (case aEnds => k_is); (case iEnds => k_is); (case lEnds => k_is)
    (case cEnds => k_is); (case kEnds => k_is); (case pg => k_is); (case hd => k_is); (case po => k_is); (case sa => k_is)
    (case mk => k_is); (case kc => k_is); (case n0 => k_is); (case n1 => k_is); (case n2 => k_is); (case n3 => k_is)
    (case n4 => k_is); (case gW => k_is); (case gP => k_is); (case gG => k_is); (case gJ => k_is); (case gL => k_is)
    (case gm1 => k_is); (case gm2 => k_is); (case gm3 => k_is); (case gm4 => k_is); (case gm5 => k_is); (case z0 => k_is)
    (case z1 => k_is); (case z2 => k_is); (case z3 => k_is); (case z4 => k_is); (case z5 => k_is); (case z6 => k_is)
    (case z7 => k_is); (case z8 => k_is); (case z9 => k_is); (case z10 => k_is); (case z11 => k_is); (case z12 => k_is)
    (case z13 => k_is)
