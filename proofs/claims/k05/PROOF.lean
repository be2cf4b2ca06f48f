import PyProof.Rows.All
import Wide.All
import OpenK.AllK
import Wide.FinOn
import HandS.ForMost
import HandS.TupAny
import HandS.TupMul
import HandS.IsInst
import HandS.MakeKwOnly
import HandS.DictComp
import HandS.Deep
import HandS.More
import HandS.Defaults
import HandS.Evl
import HandS.Walk
import KE.KDictKeyed
import KE.KeyNested
import HandS.Codes
import KE.KDictList
import KE.KDictWalk
import KE.KDictDisplayH
import HandS.Style
import HandS.Lambda
import HandS.Nested
import HandS.Conv
import KE.KSortKeyAny
import KE.GoesEnum
import HandS.ExcInit
import HandS.ExcField
import HandS.ExcOwn
import HandS.WordsExc
import HandS.FStr
import PyProof.FString2
import KE.KDictExact
import HandS.ListItems
import HandS.Zip
import HandS.EndTab
import PySem.Challenge.RW_beatwires_k05_whole_chosen_pipes
set_option Elab.async false
set_option linter.all false
set_option maxRecDepth 100000
/-! Entries of standings with what goes on with them: what the program makes of them, as it goes about it. -/
namespace K3
set_option linter.unusedSectionVars false
set_option linter.unusedSimpArgs false
section
variable {κ : Type} [DecidableEq κ]

/-- what is known of kinds: the word of what is written, lengths, ways -/
structure Kd (κ : Type) where
  z : κ
  len : κ → Int
  way : κ → Option Int

abbrev En (κ : Type) := κ × Int × List Int

variable (k : Kd κ)

def canRead (e : En κ) : Bool :=
  if e.1 = k.z then decide (e.2.1 = 0) else match k.way e.1 with
    | none => false
    | some x => decide (x ≤ e.2.1)
def grown (e : En κ) : En κ :=
  if e.1 = k.z then e else if e.2.1 + 1 < k.len e.1 then (e.1, e.2.1 + 1, e.2.2) else (k.z, 2, e.2.2)
def isJust (e : En κ) : Bool := decide ((e.1, e.2.1) = (k.z, (2 : Int)))
def isWr (e : En κ) : Bool := decide (e.1 = k.z)

def idxs (P : En κ → Bool) : Int → List (En κ) → List Int
  | _, [] => []
  | i, e :: o => if P e then i :: idxs P (i + 1) o else idxs P (i + 1) o
theorem idxs_snoc (P : En κ → Bool) (e : En κ) : ∀ (o : List (En κ)) (i : Int), idxs P i (o ++ [e]) = idxs P i o ++ (if P e then [i + o.length] else [])
  | [], i => by
    cases h : P e <;> simp [idxs, h]
  | d :: o, i => by
    have ih := idxs_snoc P e o (i + 1)
    have a : i + 1 + (o.length : Int) = i + ((o.length : Int) + 1) := by omega
    cases h : P d
    · simp only [List.cons_append, idxs, h, Bool.false_eq_true, if_false, ih, List.length_cons, Int.natCast_add, Int.cast_ofNat_Int, a]
    · simp only [List.cons_append, idxs, h, if_true, ih, List.length_cons, Int.natCast_add, Int.cast_ofNat_Int, a]

def keep1 (p q i : Int) (e : En κ) : Option (En κ) :=
  if e.1 = k.z then (if i = p then some (k.z, 0, e.2.2) else if i = q then some (k.z, 1, e.2.2) else none) else some e
def kept (p q : Int) : Int → List (En κ) → List (En κ)
  | _, [] => []
  | i, e :: o => (keep1 k p q i e).toList ++ kept p q (i + 1) o
theorem kept_snoc (p q : Int) (e : En κ) : ∀ (o : List (En κ)) (i : Int), kept k p q i (o ++ [e]) = kept k p q i o ++ (keep1 k p q (i + o.length) e).toList
  | [], i => by simp [kept]
  | d :: o, i => by
    have ih := kept_snoc p q e o (i + 1)
    have a : i + 1 + (o.length : Int) = i + ((o.length : Int) + 1) := by omega
    simp only [List.cons_append, kept, ih, List.length_cons, Int.natCast_add, Int.cast_ofNat_Int, a, List.append_assoc]

/-- what the program makes of entries one tick later -/
def AgedIs (es r : List (En κ)) : Prop :=
  (idxs (isJust k) 0 (es.map (grown k)) = [] ∧ r = es.map (grown k)) ∨
  ∃ p q, (idxs (isJust k) 0 (es.map (grown k))).getLast? = some p ∧ q ∈ idxs (isWr k) 0 (es.map (grown k)) ∧ (∀ y ∈ idxs (isWr k) 0 (es.map (grown k)), y ≤ q) ∧ r = kept k p q 0 (es.map (grown k))

def hasJ (o : List (En κ)) : Bool := o.any (isJust k)
def hasW (o : List (En κ)) : Bool := o.any (isWr k)
def lastIdx (P : En κ → Bool) : Int → List (En κ) → Option Int
  | _, [] => none
  | i, e :: o => match lastIdx P (i + 1) o with
    | some j => some j
    | none => if P e then some i else none
theorem lastIdx_getLast (P : En κ → Bool) : ∀ (o : List (En κ)) (i : Int), (idxs P i o).getLast? = lastIdx P i o
  | [], _ => rfl
  | e :: o, i => by
    have ih := lastIdx_getLast P o (i + 1)
    unfold idxs lastIdx
    rw [← ih]
    cases h : P e
    · simp only [Bool.false_eq_true, if_false]
      cases (idxs P (i + 1) o).getLast? <;> rfl
    · simp only [if_true]
      cases hh : idxs P (i + 1) o with
      | nil => rfl
      | cons a l => simp [List.getLast?_cons]
theorem idxs_ge (P : En κ → Bool) : ∀ (o : List (En κ)) (i : Int), ∀ y ∈ idxs P i o, i ≤ y
  | [], _, y, h => by simp [idxs] at h
  | e :: o, i, y, h => by
    unfold idxs at h
    cases hp : P e <;> simp only [hp, Bool.false_eq_true, if_false, if_true] at h
    · have := idxs_ge P o (i + 1) y h; omega
    · rcases List.mem_cons.mp h with rfl | h
      · omega
      · have := idxs_ge P o (i + 1) y h; omega
theorem lastIdx_ge {P : En κ → Bool} {o : List (En κ)} {i p : Int} (h : lastIdx P i o = some p) : i ≤ p := by
  rw [← lastIdx_getLast] at h
  exact idxs_ge P o i p (List.mem_of_getLast? h)
theorem lastIdx_none {P : En κ → Bool} : ∀ {o : List (En κ)} {i : Int}, lastIdx P i o = none ↔ o.any P = false
  | [], _ => by simp [lastIdx]
  | e :: o, i => by
    have ih := lastIdx_none (P := P) (o := o) (i := i + 1)
    unfold lastIdx
    cases h : lastIdx P (i + 1) o with
    | some j =>
      have : ¬ o.any P = false := fun z => by rw [ih.mpr z] at h; cases h
      simp only [List.any_cons]
      constructor
      · intro z; cases z
      · intro z; exact absurd (Bool.or_eq_false_iff.mp z).2 this
    | none =>
      have := ih.mp h
      simp only [List.any_cons, this, Bool.or_false]
      cases hp : P e <;> simp
/-- the greatest of the places is the last one -/
theorem lastIdx_max (P : En κ → Bool) : ∀ (o : List (En κ)) (i q : Int), q ∈ idxs P i o → (∀ y ∈ idxs P i o, y ≤ q) → lastIdx P i o = some q
  | [], _, q, h, _ => by simp [idxs] at h
  | e :: o, i, q, h, hm => by
    unfold lastIdx
    cases hl : lastIdx P (i + 1) o with
    | some j =>
      have hj : j ∈ idxs P (i + 1) o := by
        rw [← lastIdx_getLast] at hl; exact List.mem_of_getLast? hl
      have hj' : j ∈ idxs P i (e :: o) := by
        unfold idxs; cases P e <;> simp [hj]
      have h1 := hm j hj'
      have hq : q ∈ idxs P (i + 1) o := by
        unfold idxs at h
        cases hp : P e <;> simp only [hp, Bool.false_eq_true, if_false, if_true] at h
        · exact h
        · rcases List.mem_cons.mp h with rfl | h
          · have := idxs_ge P o (q + 1) j hj; omega
          · exact h
      have hm' : ∀ y ∈ idxs P (i + 1) o, y ≤ q := fun y hy => hm y (by unfold idxs; cases P e <;> simp [hy])
      have := lastIdx_max P o (i + 1) q hq hm'
      rw [hl] at this
      simpa using this
    | none =>
      have ha := lastIdx_none.mp hl
      have he : idxs P (i + 1) o = [] := by
        cases hz : idxs P (i + 1) o with
        | nil => rfl
        | cons a l =>
          have hg : (idxs P (i + 1) o).getLast? = none := by rw [lastIdx_getLast]; exact hl
          rw [hz] at hg; simp [List.getLast?_cons] at hg
      unfold idxs at h
      rw [he] at h
      cases hp : P e <;> simp only [hp, Bool.false_eq_true, if_false, if_true] at h
      · cases h
      · simp at h; simp [h]

/-- entries one tick later, as the program goes about it -/
def agedS (es : List (En κ)) : List (En κ) :=
  let o := es.map (grown k)
  match lastIdx (isJust k) 0 o, lastIdx (isWr k) 0 o with
  | some p, some q => kept k p q 0 o
  | _, _ => o
theorem AgedIs.eq {es r : List (En κ)} (h : AgedIs k es r) : r = agedS k es := by
  unfold agedS
  rcases h with ⟨h1, rfl⟩ | ⟨p, q, h1, h2, h3, rfl⟩
  · have : lastIdx (isJust k) 0 (es.map (grown k)) = none := by rw [← lastIdx_getLast, h1]; rfl
    simp only [this]
  · rw [lastIdx_getLast] at h1
    have h4 := lastIdx_max (isWr k) _ 0 q h2 h3
    simp only [h1, h4]
theorem gl_snoc {α : Type} (l : List α) (w : α) : (l ++ [w]).getLast? = some w := by simp
theorem isWr_iff (e : En κ) : isWr k e = true ↔ e.1 = k.z := ⟨fun h => of_decide_eq_true h, fun h => decide_eq_true h⟩
theorem isJust_iff (e : En κ) : isJust k e = true ↔ (e.1 = k.z ∧ e.2.1 = 2) := by
  unfold isJust
  rw [decide_eq_true_iff, Prod.mk.injEq]
theorem hasJ_hasW (o : List (En κ)) (h : hasJ k o = true) : hasW k o = true := by
  obtain ⟨e, he, hj⟩ := List.any_eq_true.mp h
  exact List.any_eq_true.mpr ⟨e, he, (isWr_iff k e).mpr ((isJust_iff k e).mp hj).1⟩
def ordE (n : Int) (e : En κ) : Bool := !(isWr k e) && decide (n < k.len e.1 - e.2.1)
end
end K3
namespace K3
open PySem PySem.Spec PyProof.Rows L2
def top (i : Nat) : Stmt := PySem.Challenge.pw_beatwires_k05_whole_chosen_pipes.main.body.getD i (.Pass ⟨0, 0, 0, 0⟩)
abbrev sNum : Stmt := top 3
abbrev sCan : Stmt := top 10
abbrev sHeld : Stmt := top 11
abbrev sGrown : Stmt := top 12
abbrev sAged : Stmt := top 13
abbrev sEnded : Stmt := top 14
abbrev sREnt : Stmt := top 15
abbrev sPut : Stmt := top 16
abbrev sAreK : Stmt := top 29
abbrev sIsKW : Stmt := top 4
abbrev sIsK : Stmt := top 30
abbrev sCheckP : Stmt := top 32
abbrev sPlayed : Stmt := top 33
abbrev sPlain : Stmt := top 34
abbrev sCopied : Stmt := top 40
abbrev sNeed : Stmt := top 31
abbrev sChkCh : Stmt := top 41
abbrev sIsCh : Stmt := top 42
abbrev sCheaper : Stmt := top 43
abbrev sJudge : Stmt := top 48
abbrev sProgTo : Stmt := top 49
abbrev sIsRight : Stmt := top 50
abbrev sCheapest : Stmt := top 51
abbrev sDraw : Stmt := top 53
abbrev sSet : Stmt := top 54
abbrev sPipe : Stmt := top 55
abbrev sThere : Stmt := top 56
abbrev sLast : Stmt := top 57
abbrev sLHeld : Stmt := top 58
abbrev sRead : Stmt := top 59
abbrev sLPlayed : Stmt := top 60
abbrev sLPlain : Stmt := top 61
abbrev sLaw : Stmt := top 62
abbrev sInit : Stmt := inClass (top 27) 0
abbrev sIsIns : Stmt := inClass (top 27) 1
abbrev sInss : Stmt := inClass (top 27) 2
abbrev sStart : Stmt := inClass (top 27) 3
abbrev sFollow : Stmt := inClass (top 27) 4
abbrev sLater : Stmt := inClass (top 27) 5
abbrev sEnds : Stmt := inClass (top 27) 6
abbrev sPlInit : Stmt := inClass (top 28) 0
abbrev sRInit : Stmt := inClass (top 37) 0
abbrev sRBool : Stmt := inClass (top 37) 2
abbrev sWInit : Stmt := inClass (top 38) 0
abbrev sWBool : Stmt := inClass (top 38) 2
abbrev sChInit : Stmt := inClass (top 39) 0
abbrev sChShows : Stmt := inClass (top 39) 1
abbrev sBadPipeInit : Stmt := inClass (top 20) 0

/-! ### lists of values that tell lists of data -/
def Al {α : Type} (R : V → α → Prop) (xs : List V) (ds : List α) : Prop := xs.length = ds.length ∧ ∀ (i : Nat) (x : V) (d : α), xs[i]? = some x → ds[i]? = some d → R x d
section
variable {α : Type} {R S : V → α → Prop} {xs ys : List V} {ds es : List α}
theorem Al.nil : Al R [] [] := ⟨rfl, fun i x d h => by simp at h⟩
theorem Al.mono (h : Al R xs ds) (f : ∀ x d, R x d → S x d) : Al S xs ds := ⟨h.1, fun i x d a b => f x d (h.2 i x d a b)⟩
theorem Al.snoc (h : Al R xs ds) {x : V} {d : α} (r : R x d) : Al R (xs ++ [x]) (ds ++ [d]) := by
  refine ⟨by simp [h.1], fun i y e a b => ?_⟩
  by_cases hi : i < xs.length
  · rw [List.getElem?_append_left hi] at a
    rw [List.getElem?_append_left (by rw [← h.1]; exact hi)] at b
    exact h.2 i y e a b
  · rw [List.getElem?_append_right (by omega)] at a
    rw [List.getElem?_append_right (by rw [← h.1]; omega), ← h.1] at b
    cases q : i - xs.length with
    | zero => rw [q] at a b; simp at a b; subst a; subst b; exact r
    | succ n => rw [q] at a; simp at a
theorem Al.one {x : V} {d : α} (r : R x d) : Al R [x] [d] := Al.snoc Al.nil r
theorem Al.append (h : Al R xs ds) (h' : Al R ys es) : Al R (xs ++ ys) (ds ++ es) := by
  refine ⟨by simp [h.1, h'.1], fun i y e a b => ?_⟩
  by_cases hi : i < xs.length
  · rw [List.getElem?_append_left hi] at a
    rw [List.getElem?_append_left (by rw [← h.1]; exact hi)] at b
    exact h.2 i y e a b
  · rw [List.getElem?_append_right (by omega)] at a
    rw [List.getElem?_append_right (by rw [← h.1]; omega), ← h.1] at b
    exact h'.2 _ y e a b
theorem Al.at (h : Al R xs ds) {i : Nat} {x : V} (a : xs[i]? = some x) : ∃ d, ds[i]? = some d ∧ R x d := by
  have hi := (List.getElem?_eq_some_iff.mp a).1
  rw [h.1] at hi
  exact ⟨ds[i], List.getElem?_eq_getElem hi, h.2 i x _ a (List.getElem?_eq_getElem hi)⟩
theorem Al.at' (h : Al R xs ds) {i : Nat} {d : α} (a : ds[i]? = some d) : ∃ x, xs[i]? = some x ∧ R x d := by
  have hi := (List.getElem?_eq_some_iff.mp a).1
  rw [← h.1] at hi
  exact ⟨xs[i], List.getElem?_eq_getElem hi, h.2 i _ d (List.getElem?_eq_getElem hi) a⟩
theorem Al.split (h : Al R xs ds) {e : α} {es : List α} (q : ds = es ++ [e]) : ∃ ys y, xs = ys ++ [y] ∧ Al R ys es ∧ R y e := by
  subst q
  have hl := h.1
  rcases List.eq_nil_or_concat xs with rfl | ⟨ys, y, rfl⟩
  · simp at hl
  · rw [List.concat_eq_append] at *
    simp at hl
    refine ⟨ys, y, rfl, ⟨hl, fun i x d a b => ?_⟩, ?_⟩
    · have hi := (List.getElem?_eq_some_iff.mp a).1
      refine h.2 i x d (by rw [List.getElem?_append_left hi]; exact a) (by rw [List.getElem?_append_left (by omega)]; exact b)
    · refine h.2 ys.length y e (by simp) (by rw [hl]; simp)
end

/-! ### heaps: new objects -/
/-- tuples stay -/
def Tups (H H' : Hp) : Prop := ∀ b xs, H b = some (.tup xs) → H' b = some (.tup xs)
theorem _root_.L2.Same.tups {H H' : Hp} (s : Same H H') : Tups H H' := fun b xs h => s b _ h
theorem Tups.refl (H : Hp) : Tups H H := fun _ _ h => h
theorem Tups.trans {H H1 H2 : Hp} (a : Tups H H1) (b : Tups H1 H2) : Tups H H2 := fun c xs h => b c xs (a c xs h)
theorem same_upd {H : Hp} {p : Addr} {o : HO} (h : H p = none) : Same H (upd H p o) := fun b x e => by
  rw [upd_ne (ne_of_none e h)]
  exact e
/-- all but c stays -/
def But (c : Addr) (H H' : Hp) : Prop := ∀ b o, b ≠ c → H b = some o → H' b = some o
theorem _root_.L2.Same.but {H H' : Hp} (s : Same H H') (c : Addr) : But c H H' := fun b o _ h => s b o h
theorem But.trans {c : Addr} {H H1 H2 : Hp} (a : But c H H1) (b : But c H1 H2) : But c H H2 := fun d o n h => b d o n (a d o n h)
theorem but_upd {c : Addr} {H : Hp} {o : HO} : But c H (upd H c o) := fun b x n e => by rw [upd_ne n]; exact e
theorem But.same {c : Addr} {H H' : Hp} (s : But c H H') (hc : H c = none) : Same H H' := fun b o e => s b o (fun z => by rw [z, hc] at e; cases e) e
/-- a mutable list at l, changed: what did not know l stays -/
theorem _root_.L2.Same.mut {H H' : Hp} {l : Addr} {o : HO} (s : Same H H') (h : H l = none) : Same H (upd H' l o) := fun b x e => by
  rw [upd_ne (ne_of_none e h)]
  exact s b x e

/-! ### data: entries, standings, instructions, writers, kinds -/
abbrev E := Str × Int × List Int
def EnAt (H : Hp) (v : V) (e : E) : Prop := ∃ a, v = .ref a ∧ H a = some (.tup (.str e.1 :: .int e.2.1 :: e.2.2.map V.int))
def EnsAt (H : Hp) (v : V) (es : List E) : Prop := ∃ a xs, v = .ref a ∧ H a = some (.tup xs) ∧ Al (EnAt H) xs es
def StAt (H : Hp) (v : V) (st : List (List E)) : Prop := ∃ a xs, v = .ref a ∧ H a = some (.tup xs) ∧ Al (EnsAt H) xs st
theorem EnAt.mono {H H' : Hp} (t : Tups H H') {v : V} {e : E} (h : EnAt H v e) : EnAt H' v e := let ⟨a, h1, h2⟩ := h; ⟨a, h1, t _ _ h2⟩
theorem EnsAt.mono {H H' : Hp} (t : Tups H H') {v : V} {e : List E} (h : EnsAt H v e) : EnsAt H' v e := let ⟨a, xs, h1, h2, h3⟩ := h; ⟨a, xs, h1, t _ _ h2, h3.mono fun _ _ => EnAt.mono t⟩
theorem StAt.mono {H H' : Hp} (t : Tups H H') {v : V} {e : List (List E)} (h : StAt H v e) : StAt H' v e := let ⟨a, xs, h1, h2, h3⟩ := h; ⟨a, xs, h1, t _ _ h2, h3.mono fun _ _ => EnsAt.mono t⟩
structure Ins where
  kind : Str
  goal : Int
  srcs : List Int
def InAt (H : Hp) (v : V) (i : Ins) : Prop := ∃ a b, v = .ref a ∧ H a = some (.tup [.str i.kind, .int i.goal, .ref b]) ∧ H b = some (.tup (i.srcs.map V.int))
theorem InAt.mono {H H' : Hp} (t : Tups H H') {v : V} {e : Ins} (h : InAt H v e) : InAt H' v e := let ⟨a, b, h1, h2, h3⟩ := h; ⟨a, b, h1, t _ _ h2, t _ _ h3⟩
/-- what is told of a kind -/
structure KI where
  srcs : Int
  len : Int
  way : Option Int
def oV : Option Int → V
  | none => .non
  | some i => .int i
abbrev KT := List (Str × KI)
def kiAt (H : Hp) (p : Key × V) (q : Str × KI) : Prop := p.1 = .inr q.1 ∧ ∃ t, p.2 = .ref t ∧ H t = some (.tup [.int q.2.srcs, .int q.2.len, oV q.2.way])
def find (ks : KT) (x : Str) : Option KI := (ks.find? fun p => decide (p.1 = x)).map (·.2)
/-- a dict of kinds, told by its pairs -/
def KvOk (H : Hp) : List (Key × V) → KT → Prop
  | [], [] => True
  | p :: kvs, q :: ks => kiAt H p q ∧ KvOk H kvs ks
  | _, _ => False
theorem KvOk.mono {H H' : Hp} (t : Tups H H') : ∀ {kvs : List (Key × V)} {ks : KT}, KvOk H kvs ks → KvOk H' kvs ks
  | [], [], _ => True.intro
  | _ :: _, _ :: _, ⟨⟨h1, a, h2, h3⟩, h4⟩ => ⟨⟨h1, a, h2, t _ _ h3⟩, KvOk.mono t h4⟩
  | [], _ :: _, h => h.elim
  | _ :: _, [], h => h.elim
theorem KvOk.get {H : Hp} {x : Str} {i : KI} : ∀ {kvs : List (Key × V)} {ks : KT}, KvOk H kvs ks → find ks x = some i → ∃ t, valV kvs (Sum.inr x : Key) = some (.ref t) ∧ H t = some (.tup [.int i.srcs, .int i.len, oV i.way])
  | [], [], _, h => by simp [find] at h
  | p :: kvs, q :: ks, ⟨⟨h1, a, h2, h3⟩, h4⟩, h => by
    by_cases e : q.1 = x
    · refine ⟨a, ?_, ?_⟩
      · unfold valV
        rw [List.find?_cons_of_pos (by rw [h1, e]; exact decide_eq_true rfl)]
        rw [Option.map_some, h2]
      · unfold find at h
        rw [List.find?_cons_of_pos (by rw [e]; exact decide_eq_true rfl)] at h
        cases h
        exact h3
    · have h' : find ks x = some i := by
        unfold find at h ⊢
        rwa [List.find?_cons_of_neg (by rw [decide_eq_false e]; exact Bool.false_ne_true)] at h
      obtain ⟨t, h5, h6⟩ := KvOk.get h4 h'
      refine ⟨t, ?_, h6⟩
      unfold valV at h5 ⊢
      rwa [List.find?_cons_of_neg (by
        have : ¬ p.1 = Sum.inr x := fun z => by rw [h1] at z; exact e (Sum.inr.inj z)
        rw [decide_eq_false this]; exact Bool.false_ne_true)]
  | [], _ :: _, h, _ => h.elim
  | _ :: _, [], h, _ => h.elim
def KdAt (H : Hp) (a : Addr) (ks : KT) : Prop := ∃ kvs, Rd H a (.dK kvs) ∧ KvOk H kvs ks
/-- the mathematics' word of the kinds -/
def kd (ks : KT) : Kd Str := ⟨"", fun x => ((find ks x).map (·.len)).getD 1, fun x => (find ks x).bind (·.way)⟩
theorem kd_z (ks : KT) : (kd ks).z = "" := rfl
theorem kd_len {ks : KT} {x : Str} {i : KI} (h : find ks x = some i) : (kd ks).len x = i.len := by show ((find ks x).map (·.len)).getD 1 = _; rw [h]; rfl
theorem kd_way {ks : KT} {x : Str} {i : KI} (h : find ks x = some i) : (kd ks).way x = i.way := by show (find ks x).bind (·.way) = _; rw [h]; rfl
/-- a word that is known -/
def Kn (ks : KT) (x : Str) : Prop := ∃ i, find ks x = some i
/-- the kinds are told well: no kind is called as what is written -/
structure KOk (ks : KT) : Prop where
  no : find ks "" = none
  len : ∀ x i, find ks x = some i → 1 ≤ i.len ∧ i.len ≤ 4
  str : ∀ x i, find ks x = some i → PyData.strOk x = true

/-! ### terms -/
section
variable {X : Cx}
theorem pgl {x : Str} {v : V} {pos : Pos} (h : ∃ u, X.mg x = some u ∧ RelV v u) (hg : Gl X x := by rfl) (hd : (x == ("__debug__" : Str)) = false := by decide) : PE X (.Name x pos) (tC v) := by
  obtain ⟨u, h1, h2⟩ := h
  exact pe_glob hg h1 h2 hd
end
/-- names of the top that no def changes -/
structure Txt (K : PySem.W.Frag) (mg : Str → Option Value) : Prop where
  W : ∃ u, mg "WRITTEN" = some u ∧ RelV (.str "") u
  P : ∃ u, mg "PRESENT" = some u ∧ RelV (.int 0) u
  G : ∃ u, mg "GONE" = some u ∧ RelV (.int 1) u
  J : ∃ u, mg "JUST" = some u ∧ RelV (.int 2) u
  L : ∃ u, mg "LETTERS" = some u ∧ RelV (.str "abcdefghijklmnopqrstuvwxyz") u
  m1 : ∃ u, mg "MOST_REGISTERS" = some u ∧ RelV (.int 4) u
  m2 : ∃ u, mg "MOST_KINDS" = some u ∧ RelV (.int 4) u
  m3 : ∃ u, mg "MOST_SOURCES" = some u ∧ RelV (.int 2) u
  m4 : ∃ u, mg "LONGEST" = some u ∧ RelV (.int 4) u
  m5 : ∃ u, mg "LONGEST_WORD" = some u ∧ RelV (.int 8) u
  m6 : ∃ u, mg "MOST_CHOICES" = some u ∧ RelV (.int 40) u
  isinst : mg "isinstance" = none
  int : mg "int" = none
  bool : mg "bool" = none
  str : mg "str" = none
  tuple : mg "tuple" = none
  dict : mg "dict" = none
  list : mg "list" = none
  len : mg "len" = none
  all : mg "all" = none
  any : mg "any" = none
  max : mg "max" = none
  sorted : mg "sorted" = none
  enumerate : mg "enumerate" = none
  range : mg "range" = none
theorem kz (ks : KT) (e : E) : decide (e.1 = "") = decide (e.1 = (kd ks).z) := rfl
theorem at0 {x : V} {zs : List V} : atI (x :: zs) 0 = some x := atI_nat (j := 0) (v := x) rfl
theorem at1 {x y : V} {zs : List V} : atI (x :: y :: zs) 1 = some y := atI_nat (j := 1) (v := y) rfl
theorem at2 {x y z : V} {zs : List V} : atI (x :: y :: z :: zs) 2 = some z := atI_nat (j := 2) (v := z) rfl
/-- kinds that stand as a dict -/
def KdD (H : Hp) (a : Addr) (ks : KT) : Prop := ∃ kvs, H a = some (.dK kvs) ∧ KvOk H kvs ks
theorem KdD.kd {H : Hp} {a : Addr} {ks : KT} (h : KdD H a ks) : KdAt H a ks := let ⟨kvs, h1, h2⟩ := h; ⟨kvs, .inl h1, h2⟩
theorem KdD.same {H H' : Hp} {a : Addr} {ks : KT} (h : KdD H a ks) (s : Same H H') : KdD H' a ks := let ⟨kvs, h1, h2⟩ := h; ⟨kvs, s _ _ h1, h2.mono s.tups⟩
theorem KdD.but {H H' : Hp} {a c : Addr} {ks : KT} (h : KdD H a ks) (b : But c H H') (n : a ≠ c) (t : Tups H H') : KdD H' a ks := let ⟨kvs, h1, h2⟩ := h; ⟨kvs, b _ _ n h1, h2.mono t⟩
end K3
namespace K3
open PySem PySem.Spec PyProof.Rows L2
section
variable {P : Program} {w : World} {K : PySem.W.Frag} {mg : Str → Option Value} {base : Heap}
/-! ### is_number: of ints -/
def spNum : Sp := fun vs H Q _ => ∃ i : Int, vs = [.int i] ∧ Q (.bl true) H
theorem scNum : FnScope ["thing"] ["thing"] (defScope sNum) := ⟨rfl, rfl, rfl, by decide +kernel, rfl, by decide +kernel, by decide +kernel⟩
theorem ok_num {f : Addr} {fd : FuncData} (F : Fun K "is_number" "is_number" sNum f fd) (T : Txt K mg) : FnOk P w K mg base CX0 1 f fd ["thing"] spNum := by
  refine F.ok scNum (fun vs H Q E h => ?_) (fun cdv A outer s H vs Q E hr h => ?_)
  · obtain ⟨i, rfl, _⟩ := h
    rfl
  · obtain ⟨i, rfl, k⟩ := h
    refine ⟨_, pss_one (ps_ret (pe_and (pe_callB call_isi (by rfl) T.isinst (by decide +kernel) (pa_cons (pv 0) (pa_cons (pe_bltn (v := .ty "int") (by rfl) T.int (by decide +kernel) rfl) pa_nil)))
      (pe_one (pe_not (pe_callB call_isi (by rfl) T.isinst (by decide +kernel) (pa_cons (pv 0) (pa_cons (pe_bltn (v := .ty "bool") (by rfl) T.bool (by decide +kernel) rfl) pa_nil))))))), ?_⟩
    refine ⟨_, rfl, .int i, .ty "int", .type "int", .type "int", true, rfl, .ty "int", .base (.int i), kit_ty (by decide +kernel), true, rfl, ?_⟩
    refine iteT ?_
    refine ⟨_, rfl, .int i, .ty "bool", .type "int", .type "bool", false, rfl, .ty "bool", .base (.int i), kit_ty (by decide +kernel), false, rfl, ?_⟩
    exact k

/-! ### can_be_read -/
def spCan (ks : KT) : Sp := fun vs H Q _ => ∃ (a : Addr) (v : V) (e : E), vs = [.ref a, v] ∧ KdAt H a ks ∧ EnAt H v e ∧ (e.1 = "" ∨ Kn ks e.1) ∧ Q (.bl (canRead (kd ks) e)) H
theorem scCan : FnScope ["kinds", "entry", "way"] ["kinds", "entry"] (defScope sCan) := ⟨rfl, rfl, rfl, by decide +kernel, rfl, by decide +kernel, by decide +kernel⟩
theorem ok_can {ks : KT} {f : Addr} {fd : FuncData} (F : Fun K "can_be_read" "can_be_read" sCan f fd) (T : Txt K mg) : FnOk P w K mg base CX0 1 f fd ["kinds", "entry"] (spCan ks) := by
  refine F.ok scCan (fun vs H Q E h => ?_) (fun cdv A outer s H vs Q E hr h => ?_)
  · obtain ⟨a, v, e, rfl, _⟩ := h
    rfl
  · obtain ⟨a, v, e, rfl, ⟨kvs, hk, hkv⟩, ⟨b, rfl, hb⟩, hkn, k⟩ := h
    have hu := hu_of hr
    refine ⟨_, pss_cons (ps_if (pt_cmpR op_eq (pe_ix ix_tup (pv 1) pe_int (fun _ _ => rfl)) (pgl T.W) (nomark _))
        (pss_one (ps_ret (pe_cmpR op_eq (pe_ix ix_tup (pv 1) pe_int (fun _ _ => rfl)) (pgl T.P) (nomark _)))) pss_nil)
      (pss_cons (ps_set (i := 2) scCan.nd rfl (.inl rfl) (pe_ix ix_tup (pe_dget hu (pv 0) (pe_ix ix_tup (pv 1) pe_int (fun _ _ => rfl)) (fun _ _ => rfl)) pe_int (fun _ _ => rfl)))
      (pss_one (ps_ret (pe_and (pe_cmp (pc_notN (pv 2)) rfl) (pe_one (pe_cmpR op_ge (pe_ix ix_tup (pv 1) pe_int (fun _ _ => rfl)) (pv 2) (nomark _))))))), ?_⟩
    refine ⟨_, rfl, b, _, 0, _, rfl, rfl, SqT.of hb, at0, rfl, _, rfl, ?_⟩
    by_cases hz : e.1 = ""
    · have c1 : decide ((V.str e.1) = V.str "") = true := decide_eq_true (congrArg V.str hz)
      rw [c1]
      refine iteT ?_
      refine ⟨_, rfl, b, _, 1, _, rfl, rfl, SqT.of hb, at1, rfl, ?_⟩
      have c2 : decide ((V.int e.2.1) = V.int 0) = canRead (kd ks) e := by
        unfold canRead
        rw [if_pos (show e.1 = (kd ks).z from hz)]
        by_cases h0 : e.2.1 = 0
        · rw [decide_eq_true h0, decide_eq_true (congrArg V.int h0)]
        · rw [decide_eq_false h0, decide_eq_false (fun q => h0 (V.int.inj q))]
      rw [c2]
      exact k
    · have c1 : decide ((V.str e.1) = V.str "") = false := decide_eq_false fun q => hz (V.str.inj q)
      rw [c1]
      refine iteF ?_
      obtain ⟨i, hi⟩ := hkn.resolve_left hz
      obtain ⟨t, ht, hti⟩ := hkv.get hi
      refine ⟨_, rfl, _, rfl, b, _, 0, _, rfl, rfl, SqT.of hb, at0, a, .ref t, rfl, ?_, t, _, 2, _, rfl, rfl, SqT.of hti, rfl, ?_⟩
      · rw [← ht]; exact .inl ⟨kvs, Sum.inr e.1, hk, rfl, rfl⟩
      refine ⟨_, rfl, _, rfl, ?_⟩
      have c3 : canRead (kd ks) e = match i.way with
          | none => false
          | some x => decide (x ≤ e.2.1) := by
        unfold canRead
        rw [if_neg (show ¬ e.1 = (kd ks).z from hz), kd_way hi]
        all_goals (cases i.way <;> rfl)
      rw [c3] at k
      cases hw : i.way with
      | none =>
        rw [hw] at k
        exact iteF k
      | some x =>
        rw [hw] at k
        refine iteT ?_
        exact ⟨_, rfl, b, _, 1, _, rfl, rfl, SqT.of hb, at1, _, rfl, e.2.1, x, rfl, rfl, k⟩
end
end K3
namespace K3
open PySem PySem.Spec PyProof.Rows L2
/-! ### tuples read and made, with what stood before kept -/
theorem sz {n : Nat} (h : n ≤ 100000) : n ≤ sizeLine := Nat.le_trans h (by decide)
theorem szl {n : Nat} (h : n ≤ 100000) : n < sizeLine := Nat.lt_of_le_of_lt h (by decide)
section
variable {K : PySem.W.Frag} {H : Hp} {Q : VK} {a b : Addr} {xs ys : List V}
@[irreducible] def rTup (xs : List V) (H : Hp) (Q : VK) : Prop := xs.length ≤ sizeLine ∧ ∀ p, H p = none → Q (.ref p) (upd H p (.tup xs))
@[irreducible] def rLst (xs : List V) (H : Hp) (Q : VK) : Prop := xs.length ≤ sizeLine ∧ ∀ p, H p = none → Q (.ref p) (upd H p (.lst xs))
theorem rd_tup (hl : xs.length ≤ 100000) (k : ∀ p H', Same H H' → H' p = some (.tup xs) → Q (.ref p) H') : rTup xs H Q := by
  unfold rTup
  exact ⟨sz hl, fun p hp => k p _ (same_upd hp) upd_same⟩
theorem rd_lst (hl : xs.length ≤ 100000) (k : ∀ p H', H p = none → Same H H' → H' p = some (.lst xs) → Q (.ref p) H') : rLst xs H Q := by
  unfold rLst
  exact ⟨sz hl, fun p hp => k p _ hp (same_upd hp) upd_same⟩
theorem rd_t0 (k : ∀ p H', Same H H' → H' p = some (.tup []) → Q (.ref p) H') : rTup [] H Q := rd_tup (by decide) k
theorem rd_t1 {x : V} (k : ∀ p H', Same H H' → H' p = some (.tup [x]) → Q (.ref p) H') : rTup [x] H Q := rd_tup (by show 1 ≤ 100000; decide) k
theorem rd_t2 {x y : V} (k : ∀ p H', Same H H' → H' p = some (.tup [x, y]) → Q (.ref p) H') : rTup [x, y] H Q := rd_tup (by show 2 ≤ 100000; decide) k
theorem rd_t3 {x y z : V} (k : ∀ p H', Same H H' → H' p = some (.tup [x, y, z]) → Q (.ref p) H') : rTup [x, y, z] H Q := rd_tup (by show 3 ≤ 100000; decide) k
theorem rd_t4 {x y z u : V} (k : ∀ p H', Same H H' → H' p = some (.tup [x, y, z, u]) → Q (.ref p) H') : rTup [x, y, z, u] H Q := rd_tup (by show 4 ≤ 100000; decide) k
theorem rd_l0 (k : ∀ p H', H p = none → Same H H' → H' p = some (.lst []) → Q (.ref p) H') : rLst [] H Q := rd_lst (by decide) k
theorem rd_l1 {x : V} (k : ∀ p H', H p = none → Same H H' → H' p = some (.lst [x]) → Q (.ref p) H') : rLst [x] H Q := rd_lst (by show 1 ≤ 100000; decide) k
theorem ptup {X : Cx} {es : List Expr} {t : TA} {x1 : Nat} {pos : Pos} (h : PA X es t) : PE X (.Tuple es x1 pos) (fun σ H Q => t σ H fun xs H1 => rTup xs H1 Q) := by
  unfold rTup
  exact pe_tup h
theorem plst {X : Cx} {es : List Expr} {t : TA} {pos : Pos} (h : PA X es t) : PE X (.List es pos) (fun σ H Q => t σ H fun xs H1 => rLst xs H1 Q) := by
  unfold rLst
  exact pe_lst h
@[irreducible] def rCat (K : PySem.W.Frag) : R2 := rCatA K
@[irreducible] def rSlt (K : PySem.W.Frag) : V → Option Int → Option Int → Hp → VK → Prop := rSlA K
theorem op_cat' {X : Cx} : OpR X (binaryOp .Add) (rCat X.K) := by
  unfold rCat
  exact op_catA
theorem sl_t' {X : Cx} : SlR X (rSlt X.K) := by
  unfold rSlt
  exact sl_tupA
theorem ixT {X : Cx} (K : PySem.W.Frag) (h : X.K = K := by rfl) : IxR X (rIxT K) := h ▸ ix_tup
theorem catT {X : Cx} (K : PySem.W.Frag) (h : X.K = K := by rfl) : OpR X (binaryOp .Add) (rCat K) := h ▸ op_cat'
theorem slT {X : Cx} (K : PySem.W.Frag) (h : X.K = K := by rfl) : SlR X (rSlt K) := h ▸ sl_t'
theorem eqDK {X : Cx} (K : PySem.W.Frag) (hu : X.A.units + 64 < cLine) (h : X.K = K := by rfl) : OpR X (compareOp .Eq) (rEqD K) := h ▸ op_eqD hu
theorem neDK {X : Cx} (K : PySem.W.Frag) (hu : X.A.units + 64 < cLine) (h : X.K = K := by rfl) : OpR X (compareOp .NotEq) (rNeD K) := h ▸ op_neD hu
theorem ixL {X : Cx} (K : PySem.W.Frag) (h : X.K = K := by rfl) : IxR X (rIxL K) := h ▸ ix_list
/-- for a, b in .. -/
theorem pgT2 {X : Cx} (K : PySem.W.Frag) (i j : Nat) {x y : Str} {p1 p2 p3 : Pos} {kk : Nat} (nd : X.N.Nodup) (hc : X.calm = true := by rfl) (hi : X.N[i]? = some x := by rfl) (hj : X.N[j]? = some y := by rfl) (hx : Loc X.env.scope x := by exact .inl rfl) (hy : Loc X.env.scope y := by exact .inl rfl)
    (fx : X.fn x = true ∨ X.env.scope.names.lookup x = some .local := by exact .inr rfl) (fy : X.fn y = true ∨ X.env.scope.names.lookup y = some .local := by exact .inr rfl)
    (hn : (assignEach [.Name x p1, .Name y p2] X.env).length = 2 := by rfl) (hst : (assignEach [.Name x p1, .Name y p2] X.env).findIdx? (·.1) = none := by rfl) (h : X.K = K := by rfl) :
    PG X (.Tuple [.Name x p1, .Name y p2] kk p3) (gTup K 2 (gCons (gName i) (gCons (gName j) gNil))) := h ▸ pg_tup hc (pgs_cons (pg_name nd hi hx fx) (pgs_cons (pg_name nd hj hy fy) pgs_nil)) hn hst
theorem rd_cat (ha : H a = some (.tup xs)) (hb : H b = some (.tup ys)) (hl : xs.length + ys.length ≤ 100000) (k : ∀ p H', Same H H' → H' p = some (.tup (xs ++ ys)) → Q (.ref p) H') : rCat K (.ref a) (.ref b) H Q := by
  unfold rCat
  refine ⟨a, b, xs, ys, rfl, rfl, SqT.of ha, SqT.of hb, sz hl, fun e => ?_, fun _ e => ?_, fun _ _ p hp => k p _ (same_upd hp) upd_same⟩
  · exact k b H (Same.refl H) (by rw [e]; exact hb)
  · exact k a H (Same.refl H) (by rw [e, List.append_nil]; exact ha)
theorem rd_slt {lo hi : Option Int} (ha : H a = some (.tup xs)) (k : ∀ p H', Same H H' → H' p = some (.tup (cutV xs lo hi)) → Q (.ref p) H') : rSlt K (.ref a) lo hi H Q := by
  unfold rSlt
  refine ⟨a, xs, rfl, SqT.of ha, fun e => ?_, fun _ p hp => k p _ (same_upd hp) upd_same⟩
  refine k a H (Same.refl H) ?_
  unfold cutV
  rw [e.1, e.2, List.drop_zero, Nat.sub_zero, List.take_length]
  exact ha
end
theorem cut_take (xs : List V) (g : Nat) : cutV xs none (some (g : Int)) = xs.take g := by
  unfold cutV
  rw [HT.sIx_none, HT.sIx_nat, List.drop_zero, Nat.sub_zero]
  by_cases h : g ≤ xs.length
  · rw [Nat.min_eq_left h]
  · rw [Nat.min_eq_right (by omega), List.take_length, List.take_of_length_le (by omega)]
theorem cut_drop (xs : List V) (g : Nat) : cutV xs (some (g : Int)) none = xs.drop g := by
  unfold cutV
  rw [HT.sIx_none, HT.sIx_nat]
  by_cases h : g ≤ xs.length
  · rw [Nat.min_eq_left h]
    exact List.take_of_length_le (by simp)
  · rw [Nat.min_eq_right (by omega), Nat.sub_self, List.take_zero, List.drop_of_length_le (by omega)]

/-! ### a def of the top, called -/
structure Dfn (P : Program) (w : World) (K : PySem.W.Frag) (mg : Str → Option Value) (base : Heap) (x : Str) (k : Nat) (ps : List Str) (sp : Sp) (f : Addr) (fd : FuncData) : Prop where
  ok : FnOk P w K mg base CX0 k f fd ps sp
  mgf : mg x = some (.ref f)
  kp : PySem.W.keepIn K (.ref f) = true
  b : Binds K fd ps []
theorem pcl {X : Cx} {x : Str} {k : Nat} {ps : List Str} {sp : Sp} {f : Addr} {fd : FuncData} {e : Expr} {es : List Expr} {t : TA} {p pos : Pos} (D : Dfn X.prog X.w X.K X.mg X.base x k ps sp f fd) (hr : Room k X.A) (ha : PA X (e :: es) t) (hg : Gl X x := by rfl)
    (hdb : (x == ("__debug__" : Str)) = false := by decide) (he : starEach (e :: es) X.env = (false, eval e X.env) :: starEach es X.env := by rfl) (hpl : (backTo pos (starEach es X.env)).any (·.1) = false := by rfl) :
    PE X (.Call (.Name x p) (e :: es) [] pos) (tCall sp [] E0 t) := pe_call D.ok hr hg D.mgf D.kp D.b .nil pass0 ha hdb he hpl

/-! ### the pipe -/
def pfl (r : Int) (kdA : Addr) (ho od : Bool) (c : Addr) : List (Str × V) := [("registers", .int r), ("kinds", .ref kdA), ("holds", .bl ho), ("orders", .bl od), ("_aged", .ref c)]
theorem pfl_r {r kdA ho od c} : (pfl r kdA ho od c).lookup ("registers" : Str) = some (.int r) := rfl
theorem pfl_k {r kdA ho od c} : (pfl r kdA ho od c).lookup ("kinds" : Str) = some (.ref kdA) := by
  unfold pfl
  simp only [List.lookup, show (("kinds" : Str) == "registers") = false by decide +kernel]
  rfl
theorem pfl_h {r kdA ho od c} : (pfl r kdA ho od c).lookup ("holds" : Str) = some (.bl ho) := by
  unfold pfl
  simp only [List.lookup, show (("holds" : Str) == "registers") = false by decide +kernel, show (("holds" : Str) == "kinds") = false by decide +kernel]
  rfl
theorem pfl_o {r kdA ho od c} : (pfl r kdA ho od c).lookup ("orders" : Str) = some (.bl od) := by
  unfold pfl
  simp only [List.lookup, show (("orders" : Str) == "registers") = false by decide +kernel, show (("orders" : Str) == "kinds") = false by decide +kernel, show (("orders" : Str) == "holds") = false by decide +kernel]
  rfl
theorem pfl_c {r kdA ho od c} : (pfl r kdA ho od c).lookup ("_aged" : Str) = some (.ref c) := by
  unfold pfl
  simp only [List.lookup, show (("_aged" : Str) == "registers") = false by decide +kernel, show (("_aged" : Str) == "kinds") = false by decide +kernel, show (("_aged" : Str) == "holds") = false by decide +kernel, show (("_aged" : Str) == "orders") = false by decide +kernel]
  rfl
theorem pfl_m {r kdA ho od c} {m : Str} (h1 : (m == "registers") = false) (h2 : (m == "kinds") = false) (h3 : (m == "holds") = false) (h4 : (m == "orders") = false) (h5 : (m == "_aged") = false) : (pfl r kdA ho od c).lookup m = none := by
  unfold pfl
  simp only [List.lookup, h1, h2, h3, h4, h5]
structure TxtC (K : PySem.W.Frag) (mg : Str → Option Value) (C : Addr) : Prop where
  cl : Cls K C
  nr : NoAttr K C "registers"
  nk : NoAttr K C "kinds"
  nh : NoAttr K C "holds"
  no : NoAttr K C "orders"
  na : NoAttr K C "_aged"
  mgC : mg "Pipe" = some (.ref C)
/-- what is told of a pipe -/
structure PI0 where
  regs : Int
  ks : KT
  ho : Bool
  od : Bool
/-- a pipe at p; its kinds at kdA, what it keeps at c -/
def PipeAt (C : Addr) (H : Hp) (p kdA c : Addr) (t : PI0) : Prop := ∃ dx, H p = some (.ins C dx (pfl t.regs kdA t.ho t.od c))

end K3
namespace K3
open PySem PySem.Spec PyProof.Rows L2
theorem cut2 (x y : V) (zs : List V) : cutV (x :: y :: zs) (some 2) none = zs := by
  unfold cutV
  rw [HT.sIx_none, show (2 : Int) = ((2 : Nat) : Int) from rfl, HT.sIx_nat]
  have : min 2 (x :: y :: zs).length = 2 := by simp only [List.length_cons]; omega
  rw [this]
  exact List.take_of_length_le (by simp)
/-- what goes on with an entry is short -/
def TlOk (e : E) : Prop := e.2.2.length ≤ 10
section
variable {P : Program} {w : World} {K : PySem.W.Frag} {mg : Str → Option Value} {base : Heap}
/-! ### grown -/
def spGrown (ks : KT) : Sp := fun vs H Q _ => ∃ (a : Addr) (v : V) (e : E), vs = [.ref a, v] ∧ KdAt H a ks ∧ EnAt H v e ∧ TlOk e ∧ (e.1 = "" ∨ Kn ks e.1) ∧ ∀ v' H', Same H H' → EnAt H' v' (grown (kd ks) e) → Q v' H'
theorem scGrown : FnScope ["kinds", "entry", "kind", "age"] ["kinds", "entry"] (defScope sGrown) := ⟨rfl, rfl, rfl, by decide +kernel, rfl, by decide +kernel, by decide +kernel⟩
theorem ok_grown {ks : KT} {f : Addr} {fd : FuncData} (F : Fun K "grown" "grown" sGrown f fd) (T : Txt K mg) : FnOk P w K mg base CX0 1 f fd ["kinds", "entry"] (spGrown ks) := by
  refine F.ok scGrown (fun vs H Q E h => ?_) (fun cdv A outer s H vs Q E hr h => ?_)
  · obtain ⟨a, v, e, rfl, _⟩ := h
    rfl
  · obtain ⟨a, v, e, rfl, ⟨kvs, hk, hkv⟩, ⟨b, rfl, hb⟩, tl, hkn, k⟩ := h
    have hu := hu_of hr
    have nd := scGrown.nd
    refine ⟨_, pss_cons (ps_par (i := 2) (j := 3) (by rfl) nd rfl rfl (by decide) rfl rfl (pa_cons (pe_ix ix_tup (pv 1) pe_int (fun _ _ => rfl)) (pa_cons (pe_ix ix_tup (pv 1) pe_int (fun _ _ => rfl)) pa_nil)) (by rfl))
      (pss_cons (ps_if (pt_cmpR op_eq (pv 2) (pgl T.W) (nomark _)) (pss_one (ps_ret (pv 1))) pss_nil)
      (pss_cons (ps_if (pt_cmpR op_lt (pe_op op_add (pv 3) pe_int) (pe_ix ix_tup (pe_dget hu (pv 0) (pv 2) (fun _ _ => rfl)) pe_int (fun _ _ => rfl)) (nomark _))
        (pss_one (ps_ret (pe_op (catT K) (ptup (pa_cons (pv 2) (pa_cons (pe_op op_add (pv 3) pe_int) pa_nil))) (pe_slice (slT K) (pv 1) (po_some pe_int) po_none)))) pss_nil)
      (pss_one (ps_ret (pe_op (catT K) (ptup (pa_cons (pgl T.W) (pa_cons (pgl T.J) pa_nil))) (pe_slice (slT K) (pv 1) (po_some pe_int) po_none)))))), ?_⟩
    refine ⟨_, rfl, b, _, 0, _, rfl, rfl, SqT.of hb, at0, _, rfl, b, _, 1, _, rfl, rfl, SqT.of hb, at1, _, _, rfl, ?_⟩
    refine ⟨_, rfl, rfl, _, rfl, ?_⟩
    have tl' : e.2.2.length ≤ 10 := tl
    by_cases hz : e.1 = ""
    · rw [show decide ((V.str e.1) = V.str "") = true from decide_eq_true (congrArg V.str hz)]
      refine iteT ?_
      refine ⟨_, rfl, k _ H (Same.refl H) ⟨b, rfl, ?_⟩⟩
      have : grown (kd ks) e = e := by unfold grown; rw [if_pos (show e.1 = (kd ks).z from hz)]
      rw [this]; exact hb
    · rw [show decide ((V.str e.1) = V.str "") = false from decide_eq_false fun q => hz (V.str.inj q)]
      refine iteF ?_
      obtain ⟨i, hi⟩ := hkn.resolve_left hz
      obtain ⟨t, ht, hti⟩ := hkv.get hi
      have eg : grown (kd ks) e = if e.2.1 + 1 < i.len then (e.1, e.2.1 + 1, e.2.2) else ("", 2, e.2.2) := by
        unfold grown; rw [if_neg (show ¬ e.1 = (kd ks).z from hz), kd_len hi]; rfl
      refine ⟨_, rfl, _, _, rfl, rfl, _, rfl, _, rfl, a, .ref t, rfl, ?_, t, _, 1, _, rfl, rfl, SqT.of hti, rfl, _, _, rfl, rfl, _, rfl, ?_⟩
      · rw [← ht]; exact .inl ⟨kvs, Sum.inr e.1, hk, rfl, rfl⟩
      by_cases hl : e.2.1 + 1 < i.len
      · rw [decide_eq_true hl]
        refine iteT ?_
        rw [if_pos hl] at eg
        refine ⟨_, rfl, _, rfl, _, _, rfl, rfl, ?_⟩
        refine rd_t2 fun p H1 s1 h1 => ?_
        refine ⟨_, rfl, _, rfl, ?_⟩
        refine rd_slt (s1 _ _ hb) fun q H2 s2 h2 => ?_
        rw [cut2] at h2
        refine rd_cat (s2 _ _ h1) h2 (by simp only [List.length_cons, List.length_nil, List.length_map]; omega) fun p3 H3 s3 h3 => ?_
        refine k _ _ ((s1.trans s2).trans s3) ⟨p3, rfl, ?_⟩
        rw [eg]; exact h3
      · rw [decide_eq_false hl]
        refine iteF ?_
        rw [if_neg hl] at eg
        refine rd_t2 fun p H1 s1 h1 => ?_
        refine ⟨_, rfl, _, rfl, ?_⟩
        refine rd_slt (s1 _ _ hb) fun q H2 s2 h2 => ?_
        rw [cut2] at h2
        refine rd_cat (s2 _ _ h1) h2 (by simp only [List.length_cons, List.length_nil, List.length_map]; omega) fun p3 H3 s3 h3 => ?_
        refine k _ _ ((s1.trans s2).trans s3) ⟨p3, rfl, ?_⟩
        rw [eg]; exact h3
end
end K3
namespace K3
open PySem PySem.Spec PyProof.Rows L2
/-! ### standings that can be -/
structure RowOk (ks : KT) (r : List E) : Prop where
  ne : r ≠ []
  kn : ∀ e ∈ r, e.1 = "" ∨ Kn ks e.1
  tl : ∀ e ∈ r, TlOk e
  sz : r.length ≤ 1000
structure InOk (ks : KT) (n : Nat) (i : Ins) : Prop where
  kn : Kn ks i.kind
  goal : -1 ≤ i.goal ∧ i.goal < n
  srcs : ∀ s ∈ i.srcs, 0 ≤ s ∧ s < n
  len : i.srcs.length ≤ 1000
def topE (r : List E) : E := r.getLast?.getD ("", 0, [])
def rowAt (st : List (List E)) (g : Int) : List E := st[g.toNat]?.getD []
def heldS (t : PI0) (st : List (List E)) (i : Ins) : Bool :=
  (t.ho && i.srcs.any fun s => !(isWr (kd t.ks) (topE (rowAt st s))) && !canRead (kd t.ks) (topE (rowAt st s))) ||
  (t.od && !decide (i.goal < 0) && (rowAt st i.goal).any (ordE (kd t.ks) ((kd t.ks).len i.kind)))
def putS (st : List (List E)) (i : Ins) (tl : List Int) : List (List E) :=
  if i.goal < 0 then st else st.take i.goal.toNat ++ [rowAt st i.goal ++ [(i.kind, 0, tl)]] ++ st.drop (i.goal.toNat + 1)
theorem StAt.row {H : Hp} {v : V} {st : List (List E)} (h : StAt H v st) {g : Int} (h0 : 0 ≤ g) (h1 : g < st.length) :
    ∃ a xs b ys, v = .ref a ∧ H a = some (.tup xs) ∧ xs.length = st.length ∧ atI xs g = some (.ref b) ∧ H b = some (.tup ys) ∧ Al (EnAt H) ys (rowAt st g) := by
  obtain ⟨a, xs, rfl, ha, hx⟩ := h
  obtain ⟨n, rfl⟩ := Int.eq_ofNat_of_zero_le h0
  have hn : n < st.length := by omega
  have e : st[n]? = some st[n] := List.getElem?_eq_getElem hn
  obtain ⟨x, hx1, b, ys, rfl, hb, hy⟩ := hx.at' e
  refine ⟨a, xs, b, ys, rfl, ha, hx.1, atI_nat hx1, hb, ?_⟩
  unfold rowAt
  rw [Int.toNat_natCast, e]
  exact hy
/-- the last entry -/
theorem row_top {H : Hp} {ys : List V} {r : List E} (h : Al (EnAt H) ys r) (hne : r ≠ []) : ∃ x, atI ys (-1) = some x ∧ EnAt H x (topE r) := by
  rcases List.eq_nil_or_concat r with rfl | ⟨es, e, rfl⟩
  · exact absurd rfl hne
  · rw [List.concat_eq_append] at *
    obtain ⟨zs, y, rfl, _, hy⟩ := h.split rfl
    refine ⟨y, atI_last zs y, ?_⟩
    unfold topE
    rw [gl_snoc]
    exact hy
theorem topE_mem {r : List E} (hne : r ≠ []) : topE r ∈ r := by
  rcases List.eq_nil_or_concat r with rfl | ⟨es, e, rfl⟩
  · exact absurd rfl hne
  · rw [List.concat_eq_append] at *
    unfold topE
    rw [gl_snoc]
    simp
section
variable {P : Program} {w : World} {K : PySem.W.Frag} {mg : Str → Option Value} {base : Heap}
/-! ### put_under_way -/
def spPut (ks : KT) : Sp := fun vs H Q _ => ∃ (v vi : V) (st : List (List E)) (i : Ins) (m : Addr) (tl : List Int), vs = [v, vi, .ref m] ∧ StAt H v st ∧ InAt H vi i ∧ H m = some (.tup (tl.map V.int)) ∧ tl.length ≤ 10 ∧ InOk ks st.length i ∧ st.length ≤ 1000 ∧ (∀ r ∈ st, RowOk ks r) ∧
  ∀ v' H', Same H H' → StAt H' v' (putS st i tl) → Q v' H'
theorem scPut : FnScope ["standing", "instruction", "more", "kind", "goal", "_"] ["standing", "instruction", "more"] (defScope sPut) := ⟨rfl, rfl, rfl, by decide +kernel, rfl, by decide +kernel, by decide +kernel⟩
theorem ok_put {ks : KT} {f : Addr} {fd : FuncData} (F : Fun K "put_under_way" "put_under_way" sPut f fd) : FnOk P w K mg base CX0 1 f fd ["standing", "instruction", "more"] (spPut ks) := by
  refine F.ok scPut (fun vs H Q E h => ?_) (fun cdv A outer s H vs Q E hr h => ?_)
  · obtain ⟨v, vi, st, i, m, tl, rfl, _⟩ := h
    rfl
  · obtain ⟨v, vi, st, i, m, tl, rfl, hst, ⟨a, b, rfl, ha, hb⟩, hm, htl, iok, hsz, rok, k⟩ := h
    have nd := scPut.nd
    refine ⟨_, pss_cons (ps_asg (pv 1) (pg_tup (by rfl) (pgs_cons (pg_name (i := 3) nd rfl (.inl rfl)) (pgs_cons (pg_name (i := 4) nd rfl (.inl rfl)) (pgs_cons (pg_name (i := 5) nd rfl (.inl rfl)) pgs_nil)))))
      (pss_cons (ps_if (pt_cmpR op_lt (pv 4) pe_int (nomark _)) (pss_one (ps_ret (pv 0))) pss_nil)
      (pss_one (ps_ret (pe_op op_cat' (pe_op op_cat' (pe_slice sl_t' (pv 0) po_none (po_some (pv 4)))
        (ptup (pa_cons (pe_op op_cat' (pe_ix ix_tup (pv 0) (pv 4) (fun _ _ => rfl)) (ptup (pa_cons (pe_op op_cat' (ptup (pa_cons (pv 3) (pa_cons pe_int pa_nil))) (pv 2)) pa_nil))) pa_nil)))
        (pe_slice sl_t' (pv 0) (po_some (pe_op op_add (pv 4) pe_int)) po_none))))), ?_⟩
    refine ⟨_, rfl, a, _, rfl, SqT.of ha, rfl, _, _, rfl, _, _, rfl, _, _, rfl, rfl, ?_⟩
    refine ⟨_, rfl, _, _, rfl, rfl, _, rfl, ?_⟩
    by_cases hg : i.goal < 0
    · rw [decide_eq_true hg]
      refine iteT ⟨_, rfl, k _ H (Same.refl H) ?_⟩
      unfold putS; rw [if_pos hg]; exact hst
    · rw [decide_eq_false hg]
      refine iteF ?_
      have g0 : 0 ≤ i.goal := by omega
      obtain ⟨A1, xs, B1, ys, rfl, hA, hlen, hat, hB, hal⟩ := hst.row g0 iok.goal.2
      obtain ⟨A1', xs', e1, hA', hall⟩ := hst
      cases e1
      rw [hA] at hA'; cases hA'
      obtain ⟨n, en⟩ := Int.eq_ofNat_of_zero_le g0
      have hn : n < st.length := by have := iok.goal.2; omega
      have rrow : RowOk ks (rowAt st i.goal) := rok _ (by
        unfold rowAt; rw [en, Int.toNat_natCast, List.getElem?_eq_getElem hn]; exact List.getElem_mem hn)
      have hyl : ys.length ≤ 1000 := by rw [hal.1]; exact rrow.sz
      -- standing[:goal]
      refine ⟨_, rfl, _, rfl, _, rfl, ?_⟩
      refine rd_slt hA fun p1 H1 s1 h1 => ?_
      -- standing[goal]
      refine ⟨_, rfl, _, rfl, A1, _, _, _, rfl, rfl, SqT.of (s1 _ _ hA), hat, ?_⟩
      -- (kind, 0) + more
      refine ⟨_, rfl, ?_⟩
      refine rd_t2 fun p2 H2 s2 h2 => ?_
      refine ⟨_, rfl, rd_cat h2 (s2 _ _ (s1 _ _ hm)) (by simp only [List.length_cons, List.length_nil, List.length_map]; omega) fun p3 H3 s3 h3 => ?_⟩
      refine rd_t1 fun p4 H4 s4 h4 => ?_
      have s14 : Same H H4 := s1.trans (s2.trans (s3.trans s4))
      refine rd_cat (s14 _ _ hB) h4 (by show ys.length + 1 ≤ 100000; omega) fun p5 H5 s5 h5 => ?_
      refine rd_t1 fun p6 H6 s6 h6 => ?_
      have s16 : Same H1 H6 := (s2.trans (s3.trans s4)).trans (s5.trans s6)
      have s06 : Same H H6 := s1.trans s16
      refine rd_cat (s16 _ _ h1) h6 (by rw [en, cut_take]; simp only [List.length_take, List.length_cons, List.length_nil]; omega) fun p7 H7 s7 h7 => ?_
      refine ⟨_, rfl, _, rfl, _, _, rfl, rfl, _, rfl, ?_⟩
      have s07 : Same H H7 := s06.trans s7
      refine rd_slt (s07 _ _ hA) fun p8 H8 s8 h8 => ?_
      refine rd_cat (s8 _ _ h7) h8 (by
        rw [en, cut_take, show ((n : Int) + 1) = ((n + 1 : Nat) : Int) by omega, cut_drop]
        simp only [List.length_append, List.length_take, List.length_cons, List.length_nil, List.length_drop]; omega) fun p9 H9 s9 h9 => ?_
      have s09 : Same H H9 := (s07.trans s8).trans s9
      have s39 : Same H3 H9 := (s4.trans (s5.trans s6)).trans (s7.trans (s8.trans s9))
      have s59 : Same H5 H9 := (s6.trans s7).trans (s8.trans s9)
      refine k _ H9 s09 ⟨p9, _, rfl, h9, ?_⟩
      have hmono : Al (EnsAt H9) xs st := hall.mono fun _ _ => EnsAt.mono s09.tups
      unfold putS
      rw [if_neg hg]
      rw [en, cut_take, show ((n : Int) + 1) = ((n + 1 : Nat) : Int) by omega, cut_drop, Int.toNat_natCast]
      refine Al.append (Al.append ⟨by simp [hlen], fun j x d hx hd => ?_⟩ (Al.one ⟨p5, _, rfl, s59 _ _ h5, ?_⟩)) ⟨by simp [hlen], fun j x d hx hd => ?_⟩
      · rw [List.getElem?_take] at hx hd
        split at hx
        · rename_i hj; rw [if_pos hj] at hd; exact hmono.2 j x d hx hd
        · cases hx
      · rw [← en]
        refine Al.snoc (hal.mono fun _ _ => EnAt.mono s09.tups) ⟨p3, rfl, ?_⟩
        rw [s39 _ _ h3]; rfl
      · rw [List.getElem?_drop] at hx hd
        exact hmono.2 _ x d hx hd
end
end K3
namespace K3
open PySem PySem.Spec PyProof.Rows L2
theorem map_at {α : Type} {g : α → V} {l : List α} {i : Nat} {y : V} (h : (l.map g)[i]? = some y) : ∃ x, l[i]? = some x ∧ y = g x := by
  rw [List.getElem?_map] at h
  cases e : l[i]? with
  | none => rw [e] at h; cases h
  | some x => rw [e] at h; exact ⟨x, rfl, (Option.some.inj h).symm⟩
theorem row_of {H : Hp} {xs : List V} {st : List (List E)} (hx : Al (EnsAt H) xs st) {g : Int} (h0 : 0 ≤ g) (h1 : g < st.length) :
    ∃ b ys, atI xs g = some (.ref b) ∧ H b = some (.tup ys) ∧ Al (EnAt H) ys (rowAt st g) := by
  obtain ⟨n, rfl⟩ := Int.eq_ofNat_of_zero_le h0
  have hn : n < st.length := by omega
  have e : st[n]? = some st[n] := List.getElem?_eq_getElem hn
  obtain ⟨x, hx1, b, ys, rfl, hb, hy⟩ := hx.at' e
  refine ⟨b, ys, atI_nat hx1, hb, ?_⟩
  unfold rowAt
  rw [Int.toNat_natCast, e]
  exact hy
theorem any_take_succ {α : Type} {p : α → Bool} {l : List α} {i : Nat} {x : α} (h : l[i]? = some x) (h1 : (l.take i).any p = false) (h2 : p x = false) : (l.take (i + 1)).any p = false := by
  rw [List.take_add_one, h, List.any_append, h1]
  simp [h2]
theorem any_of_at {α : Type} {p : α → Bool} {l : List α} {i : Nat} {x : α} (h : l[i]? = some x) (h2 : p x = true) : l.any p = true :=
  List.any_eq_true.mpr ⟨x, List.mem_of_getElem? h, h2⟩
section
variable {P : Program} {w : World} {K : PySem.W.Frag} {mg : Str → Option Value} {base : Heap} {C : Addr}
def spHeld (C : Addr) (t : PI0) : Sp := fun vs H Q _ => ∃ (p kdA c : Addr) (v vi : V) (st : List (List E)) (i : Ins), vs = [.ref p, v, vi] ∧ PipeAt C H p kdA c t ∧ KdAt H kdA t.ks ∧ StAt H v st ∧ InAt H vi i ∧ InOk t.ks st.length i ∧ (∀ r ∈ st, RowOk t.ks r) ∧
  Q (.bl (heldS t st i)) H
theorem scHeld : FnScope ["pipe", "standing", "instruction", "kind", "goal", "sources", "source", "last", "length", "entry"] ["pipe", "standing", "instruction"] (defScope sHeld) := ⟨rfl, rfl, rfl, by decide +kernel, rfl, by decide +kernel, by decide +kernel⟩
theorem rowAt_mem {st : List (List E)} {g : Int} (h0 : 0 ≤ g) (h1 : g < st.length) : rowAt st g ∈ st := by
  obtain ⟨n, rfl⟩ := Int.eq_ofNat_of_zero_le h0
  have hn : n < st.length := by omega
  unfold rowAt; rw [Int.toNat_natCast, List.getElem?_eq_getElem hn]; exact List.getElem_mem hn
theorem ok_held {t : PI0} {f fC : Addr} {fd fdC : FuncData} (F : Fun K "is_held" "is_held" sHeld f fd) (T : Txt K mg) (TC : TxtC K mg C) (DC : Dfn P w K mg base "can_be_read" 1 ["kinds", "entry"] (spCan t.ks) fC fdC) : FnOk P w K mg base CX0 2 f fd ["pipe", "standing", "instruction"] (spHeld C t) := by
  refine F.ok scHeld (fun vs H Q E h => ?_) (fun cdv A outer s H vs Q E hr h => ?_)
  · obtain ⟨p, kdA, c, v, vi, st, i, rfl, _⟩ := h
    rfl
  · obtain ⟨p, kdA, c, v, vi, st, i, rfl, ⟨dx, hp⟩, ⟨kvs, hkd, hkv⟩, ⟨A1, xs, rfl, hA, hall⟩, ⟨a, b, rfl, ha, hb⟩, iok, rok, k⟩ := h
    have hu := hu_of hr
    have nd := scHeld.nd
    refine ⟨_, pss_cons (ps_asg (pv 2) (pg_tup (by rfl) (pgs_cons (pg_name (i := 3) nd rfl (.inl rfl)) (pgs_cons (pg_name (i := 4) nd rfl (.inl rfl)) (pgs_cons (pg_name (i := 5) nd rfl (.inl rfl)) pgs_nil)))))
      (Evl.pss_cut (ps_if (pt_val (pe_fld (pv 0) rfl)) (pss_one (ps_for PassesOwn.never rfl (pi_tup (pv 5)) (pg_name (i := 6) nd rfl (.inl rfl))
          (pss_cons (ps_set (i := 7) nd rfl (.inl rfl) (pe_ix ix_tup (pe_ix ix_tup (pv 1) (pv 6) (fun _ _ => rfl)) (pe_un un_neg pe_int) (fun _ _ => rfl)))
          (pss_one (ps_if (PW.pt (pw_and (pt_cmpR op_ne (pe_ix ix_tup (pv 7) pe_int (fun _ _ => rfl)) (pgl T.W) (nomark _)) (pw_and1 (pt_not (pt_val (pcl DC hr (pa_cons (pe_fld (pv 0) rfl) (pa_cons (pv 7) pa_nil))))))))
            (pss_one (ps_ret pe_bl)) pss_nil))))) pss_nil)
      (pss_cons (ps_if (PW.pt (pw_or (pt_not (pt_val (pe_fld (pv 0) rfl))) (pw_or1 (pt_cmpR op_lt (pv 4) pe_int (nomark _))))) (pss_one (ps_ret pe_bl)) pss_nil)
      (pss_cons (ps_set (i := 8) nd rfl (.inl rfl) (pe_ix ix_tup (pe_dget hu (pe_fld (pv 0) rfl) (pv 3) (fun _ _ => rfl)) pe_int (fun _ _ => rfl)))
      (pss_cons (ps_for PassesOwn.never rfl (pi_tup (pe_ix ix_tup (pv 1) (pv 4) (fun _ _ => rfl))) (pg_name (i := 9) nd rfl (.inl rfl))
          (pss_one (ps_if (PW.pt (pw_and (pt_cmpR op_ne (pe_ix ix_tup (pv 9) pe_int (fun _ _ => rfl)) (pgl T.W) (nomark _))
            (pw_and1 (pt_cmpR op_gt (pe_op op_sub (pe_ix ix_tup (pe_dget hu (pe_fld (pv 0) rfl) (pe_ix ix_tup (pv 9) pe_int (fun _ _ => rfl)) (fun _ _ => rfl)) pe_int (fun _ _ => rfl)) (pe_ix ix_tup (pv 9) pe_int (fun _ _ => rfl))) (pv 8) (nomark _)))))
            (pss_one (ps_ret pe_bl)) pss_nil)))
      (pss_one (ps_ret pe_bl)))))), ?_⟩
    refine ⟨_, rfl, a, _, rfl, SqT.of ha, rfl, _, _, rfl, _, _, rfl, _, _, rfl, rfl, ?_⟩
    let tst : Int → Bool := fun s => !(isWr (kd t.ks) (topE (rowAt st s))) && !canRead (kd t.ks) (topE (rowAt st s))
    let σ0 : Option V → Option V → L2.St := fun v6 v7 => [some (.ref p), some (.ref A1), some (.ref a), some (.str i.kind), some (.int i.goal), some (.ref b), v6, v7, none, none]
    refine ⟨fun σ' H' => H' = H ∧ (∃ v6 v7, σ' = σ0 v6 v7) ∧ (t.ho && i.srcs.any tst) = false, ?_, ?_⟩
    · refine ⟨_, rfl, p, C, dx, _, _, rfl, hp, TC.cl, TC.nh, pfl_h, _, rfl, ?_⟩
      cases hho : t.ho with
      | false => exact iteF ⟨rfl, ⟨none, none, rfl⟩, rfl⟩
      | true =>
        refine iteT ?_
        refine ⟨_, rfl, b, rfl, ⟨_, SqT.of hb⟩, for_tup (K := K) (xs := i.srcs.map V.int) (fun j σ' H' => H' = H ∧ (∃ v6 v7, σ' = σ0 v6 v7) ∧ (i.srcs.take j).any tst = false)
          ⟨rfl, ⟨none, none, rfl⟩, rfl⟩ (fun j σ' H' _ hh => by obtain ⟨rfl, _⟩ := hh; exact SqT.of hb) ?_ ?_⟩
        · rintro j y σ' H' hj ⟨rfl, ⟨v6, v7, rfl⟩, hany⟩
          obtain ⟨s0, hs0, rfl⟩ := map_at hj
          obtain ⟨g0, g1⟩ := iok.srcs s0 (List.mem_of_getElem? hs0)
          obtain ⟨b', ys, hat, hB, hal⟩ := row_of hall g0 g1
          have rrow : RowOk t.ks (rowAt st s0) := rok _ (rowAt_mem g0 g1)
          obtain ⟨x, htop, e', rfl, he'⟩ := row_top hal rrow.ne
          have hkn := rrow.kn _ (topE_mem rrow.ne)
          have cont : tst s0 = false → (H' = H' ∧ (∃ v6 v7, (σ0 (some (.int s0)) (some (.ref e'))) = σ0 v6 v7) ∧ (i.srcs.take (j + 1)).any tst = false) := fun h0 => ⟨rfl, ⟨_, _, rfl⟩, any_take_succ hs0 hany h0⟩
          refine ⟨_, rfl, _, rfl, A1, _, _, _, rfl, rfl, SqT.of hA, hat, _, rfl, b', _, _, _, rfl, rfl, SqT.of hB, htop, ?_⟩
          refine ⟨_, rfl, e', _, 0, _, rfl, rfl, SqT.of he', at0, rfl, _, rfl, ?_⟩
          by_cases hz : (topE (rowAt st s0)).1 = ""
          · rw [show decide ((V.str (topE (rowAt st s0)).1) = V.str "") = true from decide_eq_true (congrArg V.str hz)]
            refine iteF (iteF (cont ?_))
            show (!(isWr (kd t.ks) (topE (rowAt st s0))) && !canRead (kd t.ks) (topE (rowAt st s0))) = false
            rw [(isWr_iff (kd t.ks) _).mpr hz]; rfl
          · rw [show decide ((V.str (topE (rowAt st s0)).1) = V.str "") = false from decide_eq_false fun q => hz (V.str.inj q)]
            have hw : isWr (kd t.ks) (topE (rowAt st s0)) = false := by
              rw [← Bool.not_eq_true, isWr_iff]; exact hz
            refine iteT ?_
            refine ⟨_, rfl, p, C, dx, _, _, rfl, hp, TC.cl, TC.nk, pfl_k, _, rfl, kdA, _, topE (rowAt st s0), rfl, ⟨kvs, hkd, hkv⟩, ⟨e', rfl, he'⟩, hkn, _, rfl, ?_⟩
            have et : tst s0 = !canRead (kd t.ks) (topE (rowAt st s0)) := by
              show (!(isWr (kd t.ks) (topE (rowAt st s0))) && !canRead (kd t.ks) (topE (rowAt st s0))) = _
              rw [hw]; rfl
            cases hc : canRead (kd t.ks) (topE (rowAt st s0)) with
            | true => exact iteF (cont (by rw [et, hc]; rfl))
            | false =>
              refine iteT ?_
              have : heldS t st i = true := by
                unfold heldS
                rw [hho, any_of_at (p := tst) hs0 (by rw [et, hc]; rfl)]; rfl
              rw [this] at k
              exact k
        · rintro σ' H' ⟨rfl, hs, hany⟩
          refine ⟨rfl, hs, ?_⟩
          rw [List.length_map, List.take_length] at hany
          rw [hany]; rfl
    · rintro σ' H' ⟨rfl, ⟨v6, v7, rfl⟩, hfst⟩
      have eH : heldS t st i = (t.od && !decide (i.goal < 0) && (rowAt st i.goal).any (ordE (kd t.ks) ((kd t.ks).len i.kind))) := by
        unfold heldS; rw [hfst]; rfl
      rw [eH] at k
      refine ⟨_, rfl, p, C, dx, _, _, rfl, hp, TC.cl, TC.no, pfl_o, _, rfl, ?_⟩
      cases hod : t.od with
      | false =>
        rw [hod] at k
        exact iteT (iteT k)
      | true =>
        rw [hod] at k
        refine iteF ?_
        refine ⟨_, rfl, _, _, rfl, rfl, _, rfl, ?_⟩
        by_cases hg : i.goal < 0
        · rw [decide_eq_true hg] at k ⊢
          exact iteT k
        · rw [decide_eq_false hg] at k ⊢
          refine iteF ?_
          obtain ⟨ki, hki⟩ := iok.kn
          obtain ⟨tk, htk, hti⟩ := hkv.get hki
          rw [kd_len hki] at k
          refine ⟨_, rfl, p, C, dx, _, _, rfl, hp, TC.cl, TC.nk, pfl_k, _, rfl, kdA, .ref tk, rfl, ?_, tk, _, 1, _, rfl, rfl, SqT.of hti, rfl, ?_⟩
          · rw [← htk]; exact .inl ⟨kvs, Sum.inr i.kind, hkd, rfl, rfl⟩
          have g0 : 0 ≤ i.goal := by omega
          obtain ⟨b', ys, hat, hB, hal⟩ := row_of hall g0 iok.goal.2
          have rrow : RowOk t.ks (rowAt st i.goal) := rok _ (rowAt_mem g0 iok.goal.2)
          refine ⟨_, rfl, _, rfl, A1, _, _, _, rfl, rfl, SqT.of hA, hat, b', rfl, ⟨_, SqT.of hB⟩, for_tup (K := K) (xs := ys) (fun j σ' H'' => H'' = H' ∧ (∃ v9, σ' = [some (.ref p), some (.ref A1), some (.ref a), some (.str i.kind), some (.int i.goal), some (.ref b), v6, v7, some (.int ki.len), v9]) ∧ ((rowAt st i.goal).take j).any (ordE (kd t.ks) ki.len) = false)
            ⟨rfl, ⟨none, rfl⟩, rfl⟩ (fun j σ' H'' _ hh => by obtain ⟨rfl, _⟩ := hh; exact SqT.of hB) ?_ ?_⟩
          · rintro j y σ' H'' hj ⟨rfl, ⟨v9, rfl⟩, hany⟩
            obtain ⟨e, hej, e', rfl, he'⟩ := hal.at hj
            have hkn := rrow.kn e (List.mem_of_getElem? hej)
            have cont : ordE (kd t.ks) ki.len e = false → (H'' = H'' ∧ (∃ v9, [some (.ref p), some (.ref A1), some (.ref a), some (.str i.kind), some (.int i.goal), some (.ref b), v6, v7, some (.int ki.len), some (.ref e')] = [some (.ref p), some (.ref A1), some (.ref a), some (.str i.kind), some (.int i.goal), some (.ref b), v6, v7, some (.int ki.len), v9]) ∧ ((rowAt st i.goal).take (j + 1)).any (ordE (kd t.ks) ki.len) = false) := fun h0 => ⟨rfl, ⟨_, rfl⟩, any_take_succ hej hany h0⟩
            refine ⟨_, rfl, e', _, 0, _, rfl, rfl, SqT.of he', at0, rfl, _, rfl, ?_⟩
            by_cases hz : e.1 = ""
            · rw [show decide ((V.str e.1) = V.str "") = true from decide_eq_true (congrArg V.str hz)]
              refine iteF (iteF (cont ?_))
              unfold ordE
              rw [(isWr_iff (kd t.ks) _).mpr hz]; rfl
            · rw [show decide ((V.str e.1) = V.str "") = false from decide_eq_false fun q => hz (V.str.inj q)]
              refine iteT ?_
              obtain ⟨ke, hke⟩ := hkn.resolve_left hz
              obtain ⟨tk', htk', hti'⟩ := hkv.get hke
              refine ⟨_, rfl, p, C, dx, _, _, rfl, hp, TC.cl, TC.nk, pfl_k, _, rfl, e', _, 0, _, rfl, rfl, SqT.of he', at0, kdA, .ref tk', rfl, ?_, tk', _, 1, _, rfl, rfl, SqT.of hti', rfl, ?_⟩
              · rw [← htk']; exact .inl ⟨kvs, Sum.inr e.1, hkd, rfl, rfl⟩
              refine ⟨_, rfl, e', _, 1, _, rfl, rfl, SqT.of he', at1, _, _, rfl, rfl, _, rfl, _, _, rfl, rfl, _, rfl, ?_⟩
              have hw : isWr (kd t.ks) e = false := by
                rw [← Bool.not_eq_true, isWr_iff]; exact hz
              have eo : ordE (kd t.ks) ki.len e = decide (ki.len < ke.len - e.2.1) := by
                unfold ordE; rw [hw, kd_len hke]; rfl
              rw [← eo]
              cases ho : ordE (kd t.ks) ki.len e with
              | true =>
                refine iteT ?_
                rw [any_of_at hej ho] at k
                exact k
              | false => exact iteF (cont ho)
          · rintro σ' H'' ⟨rfl, hs, hany⟩
            rw [hal.1, List.take_length] at hany
            rw [hany] at k
            exact k
end
end K3
namespace K3
open PySem PySem.Spec PyProof.Rows L2
theorem map_take_succ {α β : Type} {g : α → β} {l : List α} {i : Nat} {x : α} (h : l[i]? = some x) : (l.take (i + 1)).map g = (l.take i).map g ++ [g x] := by
  rw [List.take_add_one, h, List.map_append]; rfl
theorem take_succ_at {α : Type} {l : List α} {i : Nat} {x : α} (h : l[i]? = some x) : l.take (i + 1) = l.take i ++ [x] := by
  rw [List.take_add_one, h]; rfl
theorem take_len_at {α : Type} {l : List α} {i : Nat} {x : α} (h : l[i]? = some x) : (l.take i).length = i := by
  have := (List.getElem?_eq_some_iff.mp h).1
  rw [List.length_take]; omega
theorem tups_lst {H : Hp} {D : Addr} {acc : List V} {o : HO} (h : H D = some (.lst acc)) : Tups H (upd H D o) := fun b xs e => by
  have : b ≠ D := fun z => by rw [z, h] at e; cases e
  rw [upd_ne this]; exact e
theorem idxs_len (P : E → Bool) : ∀ (o : List E) (i : Int), (idxs P i o).length ≤ o.length
  | [], _ => Nat.le_refl _
  | e :: o, i => by
    have ih := idxs_len P o (i + 1)
    unfold idxs
    split
    · simp only [List.length_cons]; omega
    · simp only [List.length_cons]; omega
theorem idxs_nil (P : E → Bool) (o : List E) (i : Int) : idxs P i o = [] ↔ o.any P = false := by
  rw [← lastIdx_none (i := i), ← lastIdx_getLast]
  constructor
  · intro h; rw [h]; rfl
  · intro h; exact List.getLast?_eq_none_iff.mp h
theorem KdAt.same {H H' : Hp} {a : Addr} {ks : KT} (h : KdAt H a ks) (s : Same H H') : KdAt H' a ks := by
  obtain ⟨kvs, h1, h2⟩ := h
  refine ⟨kvs, ?_, h2.mono s.tups⟩
  rcases h1 with h1 | ⟨o, h1⟩
  · exact .inl (s _ _ h1)
  · exact .inr ⟨o, s _ _ h1⟩
/-- == of two pairs -/
theorem dp_pair {K : PySem.W.Frag} {H : Hp} {a : Addr} {x : Str} {i : Int} (h : H a = some (.tup [.str x, .int i])) : Dp K H (.ref a) (.tuple [.str x, .int i]) :=
  .tup (SqT.of h) (.cons (.str x) (.cons (.int i) .nil))
theorem shaped_pair {x : Str} {i : Int} (h : PyData.strOk x = true) : SeqAt.shaped (.tuple [.str x, .int i]) = true := by
  unfold SeqAt.shaped
  have h1 : (PyData.tuple [.str x, .int i]).canLay0 = true := by
    unfold PyData.canLay0 PyData.canLayAll0
    unfold PyData.canLay0 PyData.canLayAll0
    unfold PyData.canLay0 PyData.canLayAll0
    rw [h]; rfl
  rw [h1]; rfl
theorem eqv_pair {x y : Str} {i j : Int} : PyData.eqv (.tuple [.str x, .int i]) (.tuple [.str y, .int j]) = decide ((x, i) = (y, j)) := by
  have : PyData.eqv (.tuple [.str x, .int i]) (.tuple [.str y, .int j]) = (x == y && (i == j && true)) := rfl
  rw [this]
  by_cases h1 : x = y
  · subst h1
    by_cases h2 : i = j
    · subst h2; simp
    · have e1 : (i == j) = false := beq_eq_false_iff_ne.mpr h2
      have e2 : ¬ ((x, i) = (x, j)) := fun z => h2 (congrArg Prod.snd z)
      rw [e1, decide_eq_false e2]; simp
  · have e1 : (x == y) = false := beq_eq_false_iff_ne.mpr h1
    have e2 : ¬ ((x, i) = (y, j)) := fun z => h1 (congrArg Prod.fst z)
    rw [e1, decide_eq_false e2]; rfl
theorem cutH (x y : V) (zs : List V) : cutV (x :: y :: zs) none (some 2) = [x, y] := by
  rw [show (2 : Int) = ((2 : Nat) : Int) from rfl, cut_take]; rfl
theorem grown_tl (ks : KT) (e : E) : (grown (kd ks) e).2.2 = e.2.2 := by
  unfold grown
  split
  · rfl
  · split <;> rfl
section
variable {P : Program} {w : World} {K : PySem.W.Frag} {mg : Str → Option Value} {base : Heap} {C : Addr}
def spAged (ks : KT) : Sp := fun vs H Q _ => ∃ (a : Addr) (v : V) (es : List E), vs = [.ref a, v] ∧ KdAt H a ks ∧ EnsAt H v es ∧ (∀ e ∈ es, e.1 = "" ∨ Kn ks e.1) ∧ (∀ e ∈ es, TlOk e) ∧ es.length ≤ 1000 ∧ ∀ v' H', Same H H' → EnsAt H' v' (agedS (kd ks) es) → Q v' H'
abbrev nAged : List Str := ["kinds", "entries", "entry", "older", "at", "just", "present", "last", "kept"]
theorem scAged : FnScope nAged ["kinds", "entries"] (defScope sAged) := ⟨rfl, rfl, rfl, by decide +kernel, rfl, by decide +kernel, by decide +kernel⟩
theorem ok_aged {ks : KT} {f fG : Addr} {fd fdG : FuncData} (F : Fun K "aged" "aged" sAged f fd) (T : Txt K mg) (ko : KOk ks) (DG : Dfn P w K mg base "grown" 1 ["kinds", "entry"] (spGrown ks) fG fdG) : FnOk P w K mg base CX0 2 f fd ["kinds", "entries"] (spAged ks) := by
  refine F.ok scAged (fun vs H Q E h => ?_) (fun cdv A outer s H vs Q E hr h => ?_)
  · obtain ⟨a, v, es, rfl, _⟩ := h
    rfl
  · obtain ⟨a, v, es, rfl, hkd, ⟨A1, xs, rfl, hA, hall⟩, hkn, htl, hsz, k⟩ := h
    have hu := hu_of hr
    have nd := scAged.nd
    refine ⟨_, pss_cons (ps_setLc (i := 3) (own := [("entry", 2)]) (g := gName 2) (by rfl) nd rfl rfl (sw_true rfl rfl rfl (by decide +kernel)) (pi_tup (pv 1)) (blkOk_by (N := nAged) (sc := defScope sAged) (by decide +kernel))
        (fun _ _ _ _ _ => pg_name (i := 2) nd rfl (.inl rfl)) (fun _ _ _ _ _ => pts_nil) (fun _ _ _ _ _ => pcl DG hr (pa_cons (pv 0) (pa_cons (pv 2) pa_nil))))
      (pss_cons (ps_setLc (i := 5) (own := [("at", 4), ("entry", 2)]) (by rfl) nd rfl rfl (sw_true rfl rfl rfl (by decide +kernel)) (pi_enum (by rfl) T.enumerate (pa_cons (pv 3) pa_nil)) (blkOk_by (N := nAged) (sc := defScope sAged) (by decide +kernel))
        (fun _ _ _ _ _ => pgT2 K 4 2 nd)
        (fun _ _ _ _ _ => pts_one (pt_cmpR (eqDK K hr.units) (pe_slice (slT K) (pv 2) po_none (po_some pe_int)) (ptup (pa_cons (pgl T.W) (pa_cons (pgl T.J) pa_nil))) (nomark _)))
        (fun _ _ _ _ _ => pv 4))
      (pss_cons (ps_if (pt_not (pt_truth (pv 5) (by intro _; rfl))) (pss_one (ps_ret (pe_callTy call_tuple_of (by rfl) T.tuple (by decide +kernel) (pa_cons (pv 3) pa_nil)))) pss_nil)
      (pss_cons (ps_set (i := 6) nd rfl (.inl rfl) (pe_ix ix_list (pv 5) (pe_un un_neg pe_int) (fun _ _ => rfl)))
      (pss_cons (ps_set (i := 7) nd rfl (.inl rfl) (pe_callB (cr_max rfl) (by rfl) T.max (by decide +kernel) (pa_cons
          (pe_lc (own := [("at", 4), ("entry", 2)]) (by rfl) nd (pi_enum (by rfl) T.enumerate (pa_cons (pv 3) pa_nil)) (blkOk_by (N := nAged) (sc := defScope sAged) (by decide +kernel))
            (fun _ _ _ _ _ => pgT2 K 4 2 nd)
            (fun _ _ _ _ _ => pts_one (pt_cmpR op_eq (pe_ix (ixT K) (pv 2) pe_int (fun _ _ => rfl)) (pgl T.W) (nomark _)))
            (fun _ _ _ _ _ => pv 4)) pa_nil)))
      (pss_cons (ps_set (i := 8) nd rfl (.inl rfl) (plst pa_nil))
      (pss_cons (ps_for PassesOwn.never rfl (pi_enum (by rfl) T.enumerate (pa_cons (pv 3) pa_nil)) (pgT2 K 4 2 nd)
        (pss_one (ps_if (pt_cmpR op_ne (pe_ix (ixT K) (pv 2) pe_int (fun _ _ => rfl)) (pgl T.W) (nomark _))
            (pss_one (ps_expr (pe_bm PySem.F.plainAttrs_list PySem.F.slot_list_append PySem.F.type_list_append mt_append (pv 8) (pa_cons (pv 2) pa_nil))))
            (pss_one (ps_if (pt_cmpR op_eq (pv 4) (pv 6) (nomark _))
              (pss_one (ps_expr (pe_bm PySem.F.plainAttrs_list PySem.F.slot_list_append PySem.F.type_list_append mt_append (pv 8) (pa_cons (pe_op (catT K) (ptup (pa_cons (pgl T.W) (pa_cons (pgl T.P) pa_nil))) (pe_slice (slT K) (pv 2) (po_some pe_int) po_none)) pa_nil))))
              (pss_one (ps_if (pt_cmpR op_eq (pv 4) (pv 7) (nomark _))
                (pss_one (ps_expr (pe_bm PySem.F.plainAttrs_list PySem.F.slot_list_append PySem.F.type_list_append mt_append (pv 8) (pa_cons (pe_op (catT K) (ptup (pa_cons (pgl T.W) (pa_cons (pgl T.G) pa_nil))) (pe_slice (slT K) (pv 2) (po_some pe_int) po_none)) pa_nil))))
                pss_nil)))))))
      (pss_one (ps_ret (pe_callTy call_tuple_of (by rfl) T.tuple (by decide +kernel) (pa_cons (pv 8) pa_nil)))))))))), ?_⟩
    let kk := kd ks
    have hcell : True := True.intro
    -- older
    refine ⟨_, rfl, A1, rfl, ⟨_, SqT.of hA⟩, fun D nD => lc_tup (K := K) (xs := xs) (fun j H' => Same H H' ∧ ∃ acc, H' D = some (.lst acc) ∧ Al (EnAt H') acc ((es.take j).map (grown kk)))
      ⟨same_upd nD, [], upd_same, Al.nil⟩ (fun j H' _ hh => SqT.of (hh.1 _ _ hA)) ?_ ?_⟩
    · rintro j y H' hj ⟨s1, acc, hD, hacc⟩
      obtain ⟨e, hej, b', rfl, hb'⟩ := hall.at hj
      have hjl : j < es.length := (List.getElem?_eq_some_iff.mp hej).1
      refine ⟨rfl, ?_⟩
      refine ⟨_, rfl, _, rfl, a, _, e, rfl, hkd.same s1, ⟨b', rfl, s1 _ _ hb'⟩, htl e (List.mem_of_getElem? hej), hkn e (List.mem_of_getElem? hej), fun v' H'' s2 he => ?_⟩
      have hal : acc.length = j := by rw [hacc.1, List.length_map, take_len_at hej]
      refine ⟨acc, s2 _ _ hD, szl (by omega), (s1.trans s2).mut nD, acc ++ [v'], upd_same, ?_⟩
      have tp : Tups H'' (upd H'' D (.lst (acc ++ [v']))) := tups_lst (s2 _ _ hD)
      rw [map_take_succ hej]
      exact Al.snoc (hacc.mono fun _ _ z => EnAt.mono tp (EnAt.mono s2.tups z)) (EnAt.mono tp he)
    rintro H1 ⟨s1, os, hD, hos⟩
    rw [hall.1, List.take_length] at hos
    let o := es.map (grown kk)
    have hol : os.length = o.length := hos.1
    have hosz : o.length ≤ 1000 := by show (es.map (grown kk)).length ≤ 1000; rw [List.length_map]; exact hsz
    have okn : ∀ e ∈ o, PyData.strOk e.1 = true := by
      intro e he
      obtain ⟨e0, h0, rfl⟩ := List.mem_map.mp he
      unfold grown
      have hk0 := hkn e0 h0
      split
      · rename_i hz
        rw [hz]; show PyData.strOk "" = true; decide +kernel
      · rename_i hz
        obtain ⟨i, hi⟩ := hk0.resolve_left hz
        split
        · exact ko.str _ _ hi
        · show PyData.strOk "" = true; decide +kernel
    have otl : ∀ e ∈ o, e.2.2.length ≤ 10 := by
      intro e he
      obtain ⟨e0, h0, rfl⟩ := List.mem_map.mp he
      rw [grown_tl]; exact htl e0 h0
    -- just
    have SO : SqL K H1 D os := SqL.of hD
    refine ⟨_, rfl, D, os, rfl, SO, fun D2 nD2 => lc_it (walk_enum (xs := os)) (fun j H' => Same H1 H' ∧ H' D2 = some (.lst ((idxs (isJust kk) 0 (o.take j)).map V.int)))
      ⟨same_upd nD2, upd_same⟩ (fun j H' _ hh => SqL.of (hh.1 _ _ hD)) ?_ ?_⟩
    · rintro j y H' H'' hj ⟨s2, hD2⟩ ⟨Tt, x1, x2, rfl, nT, rfl, e1, e2⟩
      cases e1
      obtain ⟨e, hej, b', rfl, hb'⟩ := hos.at e2
      have sT := same_upd (o := HO.tup [V.int (j : Nat), V.ref b']) nT
      have s12 := s2.trans sT
      refine ⟨Tt, _, rfl, SqT.of upd_same, rfl, _, _, rfl, _, _, rfl, rfl, rfl, ?_⟩
      refine ⟨_, rfl, _, rfl, ?_⟩
      refine rd_slt (s12 _ _ hb') fun p1 H3 s3 h3 => ?_
      rw [cutH] at h3
      refine rd_t2 fun p2 H4 s4 h4 => ?_
      refine ⟨_, _, dp_pair (s4 _ _ h3), dp_pair h4, shaped_pair (okn e (List.mem_of_getElem? hej)), shaped_pair (by decide +kernel), _, rfl, ?_⟩
      rw [eqv_pair]
      have s24 : Same H' H4 := sT.trans (s3.trans s4)
      have hsn : idxs (isJust kk) 0 (o.take (j + 1)) = idxs (isJust kk) 0 (o.take j) ++ (if isJust kk e then [((j : Nat) : Int)] else []) := by
        rw [take_succ_at hej, idxs_snoc, take_len_at hej, Int.zero_add]
      have hjj : decide ((e.1, e.2.1) = (("" : Str), (2 : Int))) = isJust kk e := rfl
      rw [hjj]
      have hle : ((idxs (isJust kk) 0 (o.take j)).map V.int).length ≤ 1000 := by
        rw [List.length_map]
        refine Nat.le_trans (idxs_len _ _ _) ?_
        rw [List.length_take]; omega
      cases hb : isJust kk e with
      | true =>
        refine iteT ⟨_, rfl, _, s24 _ _ hD2, szl (by omega), (s2.trans s24).mut nD2, ?_⟩
        rw [upd_same, hsn, hb, if_pos rfl, List.map_append]; rfl
      | false =>
        refine iteF ⟨s2.trans s24, ?_⟩
        rw [hsn, hb, if_neg Bool.false_ne_true, List.append_nil]
        exact s24 _ _ hD2
    rintro H2 ⟨s2, hD2⟩
    rw [hol, List.take_length] at hD2
    -- if not just
    refine ⟨_, rfl, _, .inl ⟨_, SqL.of hD2, rfl⟩, ?_⟩
    cases hj : idxs (isJust kk) 0 o with
    | nil =>
      refine iteT ?_
      refine ⟨_, rfl, D, os, rfl, .inl ⟨SqL.of (s2 _ _ hD), fun l hl => ?_⟩⟩
      have s3 := same_upd (o := HO.tup os) hl
      refine k _ _ ((s1.trans s2).trans s3) ⟨l, os, rfl, upd_same, ?_⟩
      have e : agedS kk es = o := (AgedIs.eq kk (.inl ⟨hj, rfl⟩)).symm
      show Al _ os (agedS kk es)
      rw [e]
      exact hos.mono fun _ _ => EnAt.mono (s2.trans s3).tups
    | cons j0 js =>
      refine iteF ?_
      rw [hj] at hD2
      -- present = just[-1]
      obtain ⟨pre, pr, hpr⟩ : ∃ pre pr, j0 :: js = pre ++ [pr] := by
        rcases List.eq_nil_or_concat (j0 :: js) with h | ⟨pre, pr, h⟩
        · cases h
        · exact ⟨pre, pr, by rw [h, List.concat_eq_append]⟩
      rw [hpr] at hD2
      refine ⟨_, rfl, _, rfl, D2, _, _, _, rfl, rfl, SqL.of hD2, (by rw [List.map_append]; exact atI_last _ _), ?_⟩
      -- last = max(..)
      refine ⟨_, rfl, D, os, rfl, SqL.of (s2 _ _ hD), fun D3 nD3 => lc_it (walk_enum (xs := os)) (fun j H' => Same H2 H' ∧ H' D3 = some (.lst ((idxs (isWr kk) 0 (o.take j)).map V.int)))
        ⟨same_upd nD3, upd_same⟩ (fun j H' _ hh => SqL.of (hh.1 _ _ (s2 _ _ hD))) ?_ ?_⟩
      · rintro j y H' H'' hj ⟨s3, hD3⟩ ⟨Tt, x1, x2, rfl, nT, rfl, e1, e2⟩
        cases e1
        obtain ⟨e, hej, b', rfl, hb'⟩ := hos.at e2
        have sT := same_upd (o := HO.tup [V.int (j : Nat), V.ref b']) nT
        have s12 := (s2.trans s3).trans sT
        refine ⟨Tt, _, rfl, SqT.of upd_same, rfl, _, _, rfl, _, _, rfl, rfl, rfl, ?_⟩
        refine ⟨_, rfl, b', _, 0, _, rfl, rfl, SqT.of (s12 _ _ hb'), at0, rfl, _, rfl, ?_⟩
        have hsn : idxs (isWr kk) 0 (o.take (j + 1)) = idxs (isWr kk) 0 (o.take j) ++ (if isWr kk e then [((j : Nat) : Int)] else []) := by
          rw [take_succ_at hej, idxs_snoc, take_len_at hej, Int.zero_add]
        have hjj : decide (V.str e.1 = V.str "") = isWr kk e := by
          unfold isWr
          by_cases hz : e.1 = ""
          · rw [decide_eq_true (congrArg V.str hz), decide_eq_true (show e.1 = kk.z from hz)]
          · rw [decide_eq_false (fun q => hz (V.str.inj q)), decide_eq_false (show ¬ e.1 = kk.z from hz)]
        rw [hjj]
        have hle : ((idxs (isWr kk) 0 (o.take j)).map V.int).length ≤ 1000 := by
          rw [List.length_map]
          refine Nat.le_trans (idxs_len _ _ _) ?_
          rw [List.length_take]; omega
        cases hb : isWr kk e with
        | true =>
          refine iteT ⟨_, rfl, _, sT _ _ hD3, szl (by omega), (s3.trans sT).mut nD3, ?_⟩
          rw [upd_same, hsn, hb, if_pos rfl, List.map_append]; rfl
        | false =>
          refine iteF ⟨s3.trans sT, ?_⟩
          rw [hsn, hb, if_neg Bool.false_ne_true, List.append_nil]
          exact sT _ _ hD3
      rintro H3 ⟨s3, hD3⟩
      rw [hol, List.take_length] at hD3
      have hwn : idxs (isWr kk) 0 o ≠ [] := fun z => by
        rw [idxs_nil] at z
        have hJ : hasJ kk o = true := by
          cases hh : hasJ kk o with
          | true => rfl
          | false => rw [(idxs_nil (isJust kk) o 0).mpr hh] at hj; cases hj
        have := hasJ_hasW kk o hJ
        unfold hasW at this
        rw [z] at this; cases this
      refine ⟨D3, _, rfl, SqL.of hD3, List.length_pos_iff.mpr hwn, fun q hq hqm => ?_⟩
      -- kept = []
      refine rd_l0 fun D4 H4 nD4 s4 hD4 => ?_
      have s24 : Same H2 H4 := s3.trans s4
      refine ⟨_, rfl, D, os, rfl, SqL.of (s24 _ _ (s2 _ _ hD)), for_it (walk_enum (xs := os)) (fun j σ' H' => (∃ v2 v4, σ' = [some (.ref a), some (.ref A1), v2, some (.ref D), v4, some (.ref D2), some (.int pr), some (.int q), some (.ref D4)]) ∧ Same H3 H' ∧ ∃ acc, H' D4 = some (.lst acc) ∧ Al (EnAt H') acc (kept kk pr q 0 (o.take j)))
        ⟨⟨_, _, rfl⟩, s4, [], hD4, Al.nil⟩ (fun j σ' H' _ hh => SqL.of (hh.2.1 _ _ (s3 _ _ (s2 _ _ hD)))) ?_ ?_⟩
      · rintro j y σ' H' H'' hj ⟨⟨v2, v4, rfl⟩, s5, acc, hacc, hal⟩ ⟨Tt, x1, x2, rfl, nT, rfl, e1, e2⟩
        cases e1
        obtain ⟨e, hej, b', rfl, hb'⟩ := hos.at e2
        have sT := same_upd (o := HO.tup [V.int (j : Nat), V.ref b']) nT
        have s13 : Same H1 (upd H' Tt (.tup [V.int (j : Nat), V.ref b'])) := s2.trans (s3.trans (s5.trans sT))
        have hbb := s13 _ _ hb'
        have hacc2 := sT _ _ hacc
        have s35 := s5.trans sT
        have hkn1 : kept kk pr q 0 (o.take (j + 1)) = kept kk pr q 0 (o.take j) ++ (keep1 kk pr q j e).toList := by
          rw [take_succ_at hej, kept_snoc, take_len_at hej, Int.zero_add]
        have klen : ∀ (l : List K3.E) (i : Int), (kept kk pr q i l).length ≤ l.length := by
          intro l
          induction l with
          | nil => intro i; exact Nat.le_refl _
          | cons d l ih =>
            intro i
            have := ih (i + 1)
            unfold kept
            rw [List.length_append, List.length_cons]
            have : (keep1 kk pr q i d).toList.length ≤ 1 := by cases keep1 kk pr q i d <;> simp
            omega
        have hle : acc.length ≤ 1000 := by
          rw [hal.1]
          refine Nat.le_trans (klen _ _) ?_
          rw [List.length_take]; omega
        -- the list, one longer
        have fin : ∀ (v' : V) (H5 : Hp) (e' : K3.E), Same (upd H' Tt (.tup [V.int (j : Nat), V.ref b'])) H5 → EnAt H5 v' e' → keep1 kk pr q j e = some e' →
            (Same H3 (upd H5 D4 (.lst (acc ++ [v']))) ∧ ∃ acc', (upd H5 D4 (.lst (acc ++ [v']))) D4 = some (.lst acc') ∧ Al (EnAt (upd H5 D4 (.lst (acc ++ [v'])))) acc' (kept kk pr q 0 (o.take (j + 1)))) := by
          intro v' H5 e' s6 he hk1
          have hD5 := s6 _ _ hacc2
          have tp : Tups H5 (upd H5 D4 (.lst (acc ++ [v']))) := tups_lst hD5
          refine ⟨(s35.trans s6).mut nD4, acc ++ [v'], upd_same, ?_⟩
          rw [hkn1, hk1]
          exact Al.snoc (hal.mono fun _ _ z => EnAt.mono tp (EnAt.mono (sT.trans s6).tups z)) (EnAt.mono tp he)
        refine ⟨Tt, _, rfl, SqT.of upd_same, rfl, _, _, rfl, _, _, rfl, rfl, ?_⟩
        refine ⟨_, rfl, b', _, 0, _, rfl, rfl, SqT.of hbb, at0, rfl, _, rfl, ?_⟩
        by_cases hz : e.1 = ""
        · rw [show decide ((V.str e.1) = V.str "") = true from decide_eq_true (congrArg V.str hz)]
          refine iteF ?_
          refine ⟨_, rfl, _, rfl, rfl, _, rfl, ?_⟩
          by_cases hp : ((j : Nat) : Int) = pr
          · rw [show decide ((V.int (j : Nat)) = V.int pr) = true from decide_eq_true (congrArg V.int hp)]
            refine iteT ?_
            refine ⟨_, rfl, .inl ⟨rfl, _, SqL.of hacc2⟩, ?_⟩
            refine rd_t2 fun p5 H5 s5' h5 => ?_
            refine ⟨_, rfl, _, rfl, ?_⟩
            refine rd_slt (s5' _ _ hbb) fun p6 H6 s6 h6 => ?_
            refine rd_cat (s6 _ _ h5) h6 (by rw [cut2]; have := otl e (List.mem_of_getElem? hej); simp only [List.length_cons, List.length_nil, List.length_map]; omega) fun p7 H7 s7 h7 => ?_
            have s57 := s5'.trans (s6.trans s7)
            refine ⟨D4, acc, _, rfl, rfl, s57 _ _ hacc2, szl (by omega), ⟨_, _, rfl⟩, fin _ _ (("", 0, e.2.2) : K3.E) s57 ⟨p7, rfl, by rw [cut2] at h7; exact h7⟩ ?_⟩
            unfold keep1
            rw [if_pos (show e.1 = kk.z from hz), if_pos hp]; rfl
          · rw [show decide ((V.int (j : Nat)) = V.int pr) = false from decide_eq_false fun z => hp (V.int.inj z)]
            refine iteF ?_
            refine ⟨_, rfl, _, rfl, rfl, _, rfl, ?_⟩
            by_cases hq2 : ((j : Nat) : Int) = q
            · rw [show decide ((V.int (j : Nat)) = V.int q) = true from decide_eq_true (congrArg V.int hq2)]
              refine iteT ?_
              refine ⟨_, rfl, .inl ⟨rfl, _, SqL.of hacc2⟩, ?_⟩
              refine rd_t2 fun p5 H5 s5' h5 => ?_
              refine ⟨_, rfl, _, rfl, ?_⟩
              refine rd_slt (s5' _ _ hbb) fun p6 H6 s6 h6 => ?_
              refine rd_cat (s6 _ _ h5) h6 (by rw [cut2]; have := otl e (List.mem_of_getElem? hej); simp only [List.length_cons, List.length_nil, List.length_map]; omega) fun p7 H7 s7 h7 => ?_
              have s57 := s5'.trans (s6.trans s7)
              refine ⟨D4, acc, _, rfl, rfl, s57 _ _ hacc2, szl (by omega), ⟨_, _, rfl⟩, fin _ _ (("", 1, e.2.2) : K3.E) s57 ⟨p7, rfl, by rw [cut2] at h7; exact h7⟩ ?_⟩
              unfold keep1
              rw [if_pos (show e.1 = kk.z from hz), if_neg hp, if_pos hq2]; rfl
            · rw [show decide ((V.int (j : Nat)) = V.int q) = false from decide_eq_false fun z => hq2 (V.int.inj z)]
              refine iteF ⟨⟨_, _, rfl⟩, s35, acc, hacc2, ?_⟩
              have hk1 : keep1 kk pr q j e = none := by
                unfold keep1
                rw [if_pos (show e.1 = kk.z from hz), if_neg hp, if_neg hq2]
              rw [hkn1, hk1]
              rw [show (none : Option K3.E).toList = [] from rfl, List.append_nil]
              exact hal.mono fun _ _ => EnAt.mono sT.tups
        · rw [show decide ((V.str e.1) = V.str "") = false from decide_eq_false fun z => hz (V.str.inj z)]
          refine iteT ?_
          refine ⟨_, rfl, .inl ⟨rfl, _, SqL.of hacc2⟩, _, rfl, D4, acc, _, rfl, rfl, hacc2, szl (by omega), ⟨_, _, rfl⟩, fin _ _ _ (Same.refl _) ⟨b', rfl, hbb⟩ ?_⟩
          unfold keep1
          rw [if_neg (show ¬ e.1 = kk.z from hz)]
      · rintro σ' H' ⟨⟨v2, v4, rfl⟩, s5, acc, hacc, hal⟩
        rw [hol, List.take_length] at hal
        refine ⟨_, rfl, D4, acc, rfl, .inl ⟨SqL.of hacc, fun l hl => ?_⟩⟩
        have s6 := same_upd (o := HO.tup acc) hl
        refine k _ _ ((((s1.trans s2).trans s3).trans s5).trans s6) ⟨l, acc, rfl, upd_same, ?_⟩
        have e : kept kk pr q 0 o = agedS kk es := AgedIs.eq kk (.inr ⟨pr, q, by rw [hj, hpr, gl_snoc], hq, hqm, rfl⟩)
        show Al _ acc (agedS kk es)
        rw [← e]
        exact hal.mono fun _ _ => EnAt.mono s6.tups
end
end K3
namespace K3
open PySem PySem.Spec PyProof.Rows L2
/-- a row that is well told -/
def okRow (ks : KT) (r : List E) : Bool := !r.isEmpty && (r.all fun e => (decide (e.1 = "") || (find ks e.1).isSome) && decide (e.2.2.length ≤ 10)) && decide (r.length ≤ 900)
theorem okRow.row {ks : KT} {r : List E} (h : okRow ks r = true) : RowOk ks r := by
  unfold okRow at h
  simp only [Bool.and_eq_true, List.all_eq_true, Bool.or_eq_true, decide_eq_true_eq] at h
  obtain ⟨⟨h1, h2⟩, h3⟩ := h
  refine ⟨(fun z => by rw [z] at h1; cases h1), fun e he => ?_, fun e he => (h2 e he).2, by omega⟩
  rcases (h2 e he).1 with h | h
  · exact .inl h
  · exact .inr (Option.isSome_iff_exists.mp h)
theorem okRow.sz {ks : KT} {r : List E} (h : okRow ks r = true) : r.length ≤ 900 := by
  unfold okRow at h
  simp only [Bool.and_eq_true, decide_eq_true_eq] at h
  exact h.2
/-- the entries when all is written, by so many ticks at most -/
def endedF (ks : KT) : Nat → List E → Option (List E)
  | 0, _ => none
  | n + 1, r => if okRow ks r then (if r.any (fun e => !(isWr (kd ks) e)) then endedF ks n (agedS (kd ks) r) else some r) else none
section
variable {P : Program} {w : World} {K : PySem.W.Frag} {mg : Str → Option Value} {base : Heap} {C : Addr}
def spEnded (ks : KT) : Sp := fun vs H Q _ => ∃ (a : Addr) (v : V) (n : Nat) (es r : List E), vs = [.ref a, v] ∧ KdAt H a ks ∧ EnsAt H v es ∧ endedF ks n es = some r ∧
  ∀ v' H', Same H H' → EnsAt H' v' r → Q v' H'
abbrev nEnded : List Str := ["kinds", "entries", "entry"]
theorem scEnded : FnScope nEnded ["kinds", "entries"] (defScope sEnded) := ⟨rfl, rfl, rfl, by decide +kernel, rfl, by decide +kernel, by decide +kernel⟩
theorem ok_ended {ks : KT} {f fG : Addr} {fd fdG : FuncData} (F : Fun K "ended" "ended" sEnded f fd) (T : Txt K mg) (ko : KOk ks) (DG : Dfn P w K mg base "aged" 2 ["kinds", "entries"] (spAged ks) fG fdG) : FnOk P w K mg base CX0 3 f fd ["kinds", "entries"] (spEnded ks) := by
  refine F.ok scEnded (fun vs H Q E h => ?_) (fun cdv A outer s H vs Q E hr h => ?_)
  · obtain ⟨a, v, n, es, r, rfl, _⟩ := h
    rfl
  · obtain ⟨a, v, n, es, r0, rfl, hkd, hens, hF, k⟩ := h
    have hu := hu_of hr
    have nd := scEnded.nd
    refine ⟨_, pss_cons (ps_while PassesOwn.never (pt_val (pe_callB (cr_any rfl) (by rfl) T.any (by decide +kernel) (pa_cons
          (pe_lc (own := [("entry", 2)]) (g := gName 2) (by rfl) nd (pi_tup (pv 1)) (blkOk_by (N := nEnded) (sc := defScope sEnded) (by decide +kernel))
            (fun _ _ _ _ _ => pg_name (i := 2) nd rfl (.inl rfl)) (fun _ _ _ _ _ => pts_nil) (fun _ _ _ _ _ => pe_cmpR op_ne (pe_ix (ixT K) (pv 2) pe_int (fun _ _ => rfl)) (pgl T.W) (nomark _))) pa_nil)))
        (pss_one (ps_set (i := 1) nd rfl (.inl rfl) (pcl DG hr (pa_cons (pv 0) (pa_cons (pv 1) pa_nil))))))
      (pss_one (ps_ret (pv 1))), ?_⟩
    refine ⟨fun m σ' H' => ∃ r v' v2, endedF ks m r = some r0 ∧ σ' = [some (.ref a), some v', v2] ∧ Same H H' ∧ EnsAt H' v' r, ⟨n, es, v, none, hF, rfl, Same.refl H, hens⟩, ?_⟩
    rintro m σ' H' ⟨r, v', v2, hm, rfl, s1, A1, xs, rfl, hA, hall⟩
    cases m with
    | zero => cases hm
    | succ m =>
    have hok : okRow ks r = true := by
      cases h : okRow ks r with
      | true => rfl
      | false => unfold endedF at hm; rw [h] at hm; cases hm
    have rok := okRow.row hok
    unfold endedF at hm
    rw [if_pos hok] at hm
    refine ⟨_, rfl, A1, rfl, ⟨_, SqT.of hA⟩, fun D nD => lc_tup (K := K) (xs := xs) (fun j H'' => Same H' H'' ∧ H'' D = some (.lst ((r.take j).map fun e => V.bl (!(isWr (kd ks) e)))))
      ⟨same_upd nD, upd_same⟩ (fun j H'' _ hh => SqT.of (hh.1 _ _ hA)) ?_ ?_⟩
    · rintro j y H'' hj ⟨s2, hD⟩
      obtain ⟨e, hej, b', rfl, hb'⟩ := hall.at hj
      have hjl : j < r.length := (List.getElem?_eq_some_iff.mp hej).1
      refine ⟨rfl, ?_⟩
      refine ⟨_, rfl, b', _, 0, _, rfl, rfl, SqT.of (s2 _ _ hb'), at0, rfl, _, hD, ?_, s2.mut nD, ?_⟩
      · rw [List.length_map, List.length_take]
        have := rok.sz
        exact szl (by show min j r.length ≤ 100000; have : r.length ≤ 1000 := rok.sz; omega)
      · rw [upd_same, map_take_succ hej]
        have hjj : decide (V.str e.1 = V.str "") = isWr (kd ks) e := by
          unfold isWr
          by_cases hz : e.1 = ""
          · rw [decide_eq_true (congrArg V.str hz), decide_eq_true (show e.1 = (kd ks).z from hz)]
          · rw [decide_eq_false (fun q => hz (V.str.inj q)), decide_eq_false (show ¬ e.1 = (kd ks).z from hz)]
        rw [hjj]
    rintro H2 ⟨s2, hD⟩
    rw [hall.1, List.take_length] at hD
    refine ⟨D, r.map (fun e => !(isWr (kd ks) e)), rfl, ?_, _, rfl, ?_⟩
    · rw [List.map_map]; exact SqL.of hD
    have eany : (r.map (fun e => !(isWr (kd ks) e))).any id = r.any fun e => !(isWr (kd ks) e) := by
      rw [List.any_map]; rfl
    rw [eany]
    cases hany : r.any fun e => !(isWr (kd ks) e) with
    | false =>
      refine iteF ?_
      rw [hany] at hm
      cases hm
      exact ⟨_, rfl, k _ H2 (s1.trans s2) ⟨A1, xs, rfl, s2 _ _ hA, hall.mono fun _ _ => EnAt.mono s2.tups⟩⟩
    | true =>
      refine iteT ?_
      rw [hany, if_pos rfl] at hm
      refine ⟨fun σ'' H'' => ∃ v'' v2', σ'' = [some (.ref a), some v'', v2'] ∧ Same H H'' ∧ EnsAt H'' v'' (agedS (kd ks) r), fun σ'' H'' hN => ?_, ?_⟩
      · obtain ⟨v'', v2', rfl, s3, hE⟩ := hN
        exact ⟨m, by omega, _, v'', v2', hm, rfl, s3, hE⟩
      · refine ⟨_, rfl, _, rfl, a, _, r, rfl, hkd.same (s1.trans s2), ⟨A1, xs, rfl, s2 _ _ hA, hall.mono fun _ _ => EnAt.mono s2.tups⟩, rok.kn, rok.tl, rok.sz, fun v'' H'' s3 hE => ?_⟩
        exact ⟨v'', v2, rfl, (s1.trans s2).trans s3, hE⟩
end
end K3
namespace K3
open PySem PySem.Spec PyProof.Rows L2
/-! ### a dict whose keys are tuples of entries, told by what stands in it -/
def keyEn (e : E) : NestedKey := .tup (.text e.1 :: .num e.2.1 :: e.2.2.map NestedKey.num)
def keyEs (es : List E) : NestedKey := .tup (es.map keyEn)
theorem num_inj : ∀ {xs ys : List Int}, xs.map NestedKey.num = ys.map NestedKey.num → xs = ys
  | [], [], _ => rfl
  | [], _ :: _, h => by cases h
  | _ :: _, [], h => by cases h
  | x :: xs, y :: ys, h => by
    rw [List.map_cons, List.map_cons] at h
    injection h with h1 h2
    injection h1 with h1
    rw [h1, num_inj h2]
theorem keyEn_inj {e f : E} (h : keyEn e = keyEn f) : e = f := by
  unfold keyEn at h
  injection h with h
  injection h with h1 h2
  injection h1 with h1
  injection h2 with h2 h3
  injection h2 with h2
  exact Prod.ext h1 (Prod.ext h2 (num_inj h3))
theorem depth_num (xs : List Int) : NestedKey.depthAll (xs.map NestedKey.num) = 0 := by
  induction xs with
  | nil => rfl
  | cons x xs ih =>
    rw [List.map_cons]
    unfold NestedKey.depthAll
    rw [ih]; rfl
theorem keyEn_depth (e : E) : (keyEn e).depth = 1 := by
  unfold keyEn NestedKey.depth
  unfold NestedKey.depthAll
  unfold NestedKey.depthAll
  rw [depth_num]; rfl
theorem keyEs_inj {es fs : List E} (h : keyEs es = keyEs fs) : es = fs := by
  unfold keyEs at h
  injection h with h
  induction es generalizing fs with
  | nil => cases fs with
    | nil => rfl
    | cons f fs => cases h
  | cons e es ih => cases fs with
    | nil => cases h
    | cons f fs =>
      simp only [List.map_cons, List.cons.injEq] at h
      rw [keyEn_inj h.1, ih h.2]
theorem keyEs_depth (es : List E) : (keyEs es).depth ≤ 8 := by
  have h1 : ∀ es : List E, NestedKey.depthAll (es.map keyEn) ≤ 1 := by
    intro es
    induction es with
    | nil => exact Nat.zero_le _
    | cons e es ih =>
      rw [List.map_cons]
      unfold NestedKey.depthAll
      have : (keyEn e).depth = 1 := keyEn_depth e
      rw [this]
      exact Nat.max_le.mpr ⟨Nat.le_refl _, ih⟩
  unfold keyEs NestedKey.depth
  have := h1 es
  omega
/-- an entry that is kept: the key, its own tuple, the value's tuple -/
abbrev Kp := List E × Addr × Addr
def kx (q : Kp) : NestedKey × Addr × Value := (keyEs q.1, q.2.1, .ref q.2.2)
def cph (P : Program) (w : World) (c : Addr) (xs : List Kp) : Heap → Prop := fun h => (c == sysModules) = false ∧ ∃ o es ep, h.get? c = some o ∧ o.ExactDict ∧ o.data = .dict es ep ∧ es.toList = (xs.map kx).map (entryOfKey (nestedKind P w)) ∧ ((xs.map kx).map (·.1)).Nodup
def CacheO (P : Program) (w : World) (c : Addr) (xs : List Kp) : HO := .ext (cph P w c xs)
theorem cph_ok {P : Program} {w : World} {H : Hp} {h : Heap} {c : Addr} {xs : List Kp} (p : cph P w c xs h) : ObjOk P w H h c (CacheO P w c xs) := by
  refine ⟨p, ?_, ?_⟩
  · obtain ⟨_, o, _, _, e, _⟩ := p
    exact ⟨o, e⟩
  · rintro h1 h2 ⟨z, o, es, ep, e, r⟩ hk
    exact ⟨z, o, es, ep, hk o e, r⟩
section
variable {P : Program} {w : World} {H : Hp} {h : Heap}
theorem nums_of : ∀ {xs : List Int} {its : List Value}, Vals (xs.map V.int) its → NestedAll h (xs.map NestedKey.num) its
  | [], _, r => by cases r; exact .nil
  | x :: xs, _, r => by
    rw [List.map_cons] at r
    cases r with
    | cons q r' =>
      obtain ⟨t, rfl⟩ := (show ∃ t, _ = Value.int x t from q)
      exact .cons (.int _ _) (nums_of r')
theorem nested_of (ok : HOk P w H h) {es : List E} {a : Addr} {xs : List V} (ha : H a = some (.tup xs)) (hal : Al (EnAt H) xs es) : (nestedKind P w).is h (keyEs es) a := by
  refine ⟨?_, keyEs_depth es⟩
  obtain ⟨_, its, r, o, h1, h2, n, h3⟩ := (show ObjOk P w H h a (.tup xs) from ok a _ ha)
  refine .tup h1 h2 h3 ?_
  have key : ∀ (xs : List V) (es : List E) (its : List Value), Vals xs its → Al (EnAt H) xs es → NestedAll h (es.map keyEn) its := by
    intro xs
    induction xs with
    | nil =>
      intro es its r hal
      cases r
      have := hal.1
      cases es with
      | nil => exact .nil
      | cons _ _ => simp at this
    | cons x xs ih =>
      intro es its r hal
      cases r with
      | cons rx rr =>
        cases es with
        | nil => have := hal.1; simp at this
        | cons e es =>
          have h0 := hal.2 0 x e rfl rfl
          obtain ⟨b, rfl, hb⟩ := h0
          have hx : Al (EnAt H) xs es := ⟨by have := hal.1; simp at this; exact this, fun i y d hy hd => hal.2 (i + 1) y d (by simpa using hy) (by simpa using hd)⟩
          rw [List.map_cons]
          refine .cons ?_ (ih es _ rr hx)
          cases (show _ = Value.ref b from rx)
          obtain ⟨_, its', r', o', g1, g2, n', g3⟩ := (show ObjOk P w H h b (.tup _) from ok b _ hb)
          refine .tup g1 g2 g3 ?_
          cases r' with
          | cons q1 r' =>
            cases r' with
            | cons q2 r' =>
              obtain ⟨t1, rfl⟩ := (show ∃ t, _ = Value.str e.1 t from q1)
              obtain ⟨t2, rfl⟩ := (show ∃ t, _ = Value.int e.2.1 t from q2)
              refine .cons (.text _ _) (.cons (.int _ _) ?_)
              exact nums_of r'
  simpa using key xs es its r hal
end
/-- what is kept is told right: each value is what the program makes of its key -/
structure CacheAt (P : Program) (w : World) (ks : KT) (H : Hp) (c : Addr) (xs : List Kp) : Prop where
  at_ : H c = some (CacheO P w c xs)
  ok : ∀ q ∈ xs, EnsAt H (.ref q.2.1) q.1 ∧ EnsAt H (.ref q.2.2) (agedS (kd ks) q.1)
theorem CacheAt.same {P : Program} {w : World} {ks : KT} {H H' : Hp} {c : Addr} {xs : List Kp} (h : CacheAt P w ks H c xs) (s : Same H H') : CacheAt P w ks H' c xs :=
  ⟨s _ _ h.at_, fun q hq => ⟨(h.ok q hq).1.mono s.tups, (h.ok q hq).2.mono s.tups⟩⟩
/-- tuples stay when what is kept changes -/
theorem but_tups {P : Program} {w : World} {ks : KT} {H H' : Hp} {c : Addr} {xs : List Kp} (h : CacheAt P w ks H c xs) (b : But c H H') : Tups H H' := fun d ys e => b d _ (fun z => by rw [z, h.at_] at e; cases e) e
theorem at_mem {xs : List Kp} {es : List E} {p : Addr × Value} (h : atKey (xs.map kx) (keyEs es) = some p) : ∃ q ∈ xs, q.1 = es ∧ p = (q.2.1, .ref q.2.2) := by
  unfold atKey at h
  obtain ⟨x, hx, rfl⟩ := Option.map_eq_some_iff.mp h
  have h1 := List.mem_of_find?_eq_some hx
  have h2 : decide (x.1 = keyEs es) = true := List.find?_some (p := fun x : NestedKey × Addr × Value => decide (x.1 = keyEs es)) hx
  obtain ⟨q, hq, rfl⟩ := List.mem_map.mp h1
  exact ⟨q, hq, keyEs_inj (of_decide_eq_true h2), rfl⟩
section
variable {X : Cx}
theorem dict_of {pins : List (Addr × Obj)} {σ : L2.St} {H : Hp} {s : Shared} {ks : KT} {c : Addr} {xs : List Kp} (I : Inv X pins σ H s) (hc : CacheAt X.prog X.w ks H c xs) :
    (c == sysModules) = false ∧ s.heap.DictOfH (nestedKind X.prog X.w) c (xs.map kx) := by
  obtain ⟨⟨z, o, es, ep, h1, h2, h3, h4, h5⟩, _⟩ := I.hok c _ hc.at_
  refine ⟨z, o, es, ep, h1, h2, h3, h4, fun x hx => ?_, h5⟩
  obtain ⟨q, hq, rfl⟩ := List.mem_map.mp hx
  obtain ⟨a, ys, e, ha, hal⟩ := (hc.ok q hq).1
  cases e
  exact nested_of I.hok ha hal
theorem room_n {A : Around} (hu : A.units + 64 < cLine) : (nestedKind X.prog X.w).room A.in1 := by
  show A.in1.units + 8 < cLine
  have : A.in1.units = A.units + 1 := rfl
  omega
@[irreducible] def rCNotIn (P : Program) (w : World) (ks : KT) : R2 := fun x y H Q => ∃ (c : Addr) (xs : List Kp) (es : List E), y = .ref c ∧ CacheAt P w ks H c xs ∧ EnsAt H x es ∧
  Q (.bl (!(atKey (xs.map kx) (keyEs es)).isSome)) H
theorem op_cnotin (P : Program) (w : World) (ks : KT) (hu : X.A.units + 64 < cLine) (hP : X.prog = P := by rfl) (hw : X.w = w := by rfl) : OpR X (compareOp .NotIn) (rCNotIn P w ks) := by
  subst hP hw
  unfold rCNotIn
  intro pins s σ H x y v u Q I rx ry h
  obtain ⟨c, xs, es, rfl, hc, ⟨a, ys, rfl, ha, hal⟩, k⟩ := h
  cases rx
  cases ry
  obtain ⟨hd, hm⟩ := dict_of I hc
  refine wpAny_notIn_heap (room_n hu) (nested_of I.hok ha hal) hd hm ?_
  exact ⟨.bl _, H, I.tok _, rfl, k⟩
@[irreducible] def rCGet (P : Program) (w : World) (ks : KT) : R2 := fun x y H Q => ∃ (c : Addr) (es : List E) (xs : List Kp) (q : Kp), x = .ref c ∧ CacheAt P w ks H c xs ∧ EnsAt H y es ∧
  atKey (xs.map kx) (keyEs es) = some (q.2.1, .ref q.2.2) ∧ Q (.ref q.2.2) H
theorem ix_c (P : Program) (w : World) (ks : KT) (hu : X.A.units + 64 < cLine) (hP : X.prog = P := by rfl) (hw : X.w = w := by rfl) : IxR X (rCGet P w ks) := by
  subst hP hw
  unfold rCGet
  intro value slice pins s σ H x y v u Q I rx ry h hs
  obtain ⟨c, es, xs, q, rfl, hc, ⟨a, ys, rfl, ha, hal⟩, hat, k⟩ := h
  cases rx
  cases ry
  obtain ⟨hd, hm⟩ := dict_of I hc
  refine subscriptTail_builtinR (x := .ref q.2.2) hm.typeIs PySem.F.slot_dict_getitem.lookup ?_ hs
  refine wpAny_getItem_heap (room_n hu) (nested_of I.hok ha hal) hm hat ?_
  exact ⟨rfl, .ref q.2.2, H, I.tok _, rfl, k⟩
@[irreducible] def rCSet (P : Program) (w : World) (ks : KT) : V → V → V → Hp → (Hp → Prop) → Prop := fun o i v H Q => ∃ (c ka va : Addr) (es : List E) (xs : List Kp), o = .ref c ∧ i = .ref ka ∧ v = .ref va ∧ CacheAt P w ks H c xs ∧ EnsAt H i es ∧
  atKey (xs.map kx) (keyEs es) = none ∧ xs.length ≤ 100000 ∧ EnsAt H v (agedS (kd ks) es) ∧ ∀ H', But c H H' → CacheAt P w ks H' c (xs ++ [(es, ka, va)]) → Q H'
theorem set_c (P : Program) (w : World) (ks : KT) (hu : X.A.units + 64 < cLine) (hP : X.prog = P := by rfl) (hw : X.w = w := by rfl) : PSet X (rCSet P w ks) := by
  subst hP hw
  unfold rCSet
  intro pins s σ H o i v ov iv u Q I ro ri rv h
  obtain ⟨c, ka, va, es, xs, rfl, rfl, rfl, hc, he, hat, hl, hv, k⟩ := h
  cases ro
  cases ri
  cases rv
  obtain ⟨a, ys, e, ha, hal⟩ := id he
  cases e
  obtain ⟨hd, hm⟩ := dict_of I hc
  refine wpAny_setItem_heap (hsz := by rw [List.length_map]; exact sz hl) (room_n hu) (nested_of I.hok ha hal) hm fun h' dd' hs => ?_
  rw [storedH_new hat] at dd'
  have em : xs.map kx ++ [(keyEs es, ka, Value.ref va)] = (xs ++ [(es, ka, va)]).map kx := by rw [List.map_append]; rfl
  rw [em] at dd'
  obtain ⟨q, es', ep, hq, h2, h3, h4, _, h5⟩ := dd'
  have b : But c H (upd H c (CacheO X.prog X.w c (xs ++ [(es, ka, va)]))) := but_upd
  have tp := but_tups hc b
  refine ⟨upd H c (CacheO X.prog X.w c (xs ++ [(es, ka, va)])), ?_, k _ b ⟨upd_same, fun x hx => ?_⟩⟩
  · exact d_write I (by rw [hc.at_]; exact True.intro) hs ⟨q, hq⟩ (cph_ok ⟨hd, q, es', ep, hq, h2, h3, h4, h5⟩)
  · rcases List.mem_append.mp hx with hx | hx
    · exact ⟨(hc.ok x hx).1.mono tp, (hc.ok x hx).2.mono tp⟩
    · rw [List.mem_singleton] at hx; subst hx
      exact ⟨he.mono tp, hv.mono tp⟩
def tDNewC (P : Program) (w : World) : TE := fun _ H Q => ∀ p, H p = none → Q (.ref p) (upd H p (CacheO P w p []))
theorem pe_dnewC {pos : Pos} (P : Program) (w : World) (hP : X.prog = P := by rfl) (hw : X.w = w := by rfl) : PE X (.Dict [] [] pos) (tDNewC P w) := by
  subst hP hw
  refine ⟨fun pins s σ H Q I h => ?_⟩
  refine wpAny_Dict_empty ⟨.ref s.heap.objs.size, _, I.laid (a := s.heap.objs.size) (o := CacheO X.prog X.w s.heap.objs.size []) (t' := s.toks) (fun _ _ q => Heap.get?_push_of_some _ q) (Nat.le_refl _) (cph_ok ?_), rfl, h _ (I.hok.fresh (Nat.le_refl _))⟩
  exact ⟨beq_eq_false_iff_ne.mpr (Ne.symm (Nat.ne_of_lt I.big)), _, #[], 0, Heap.get?_push_size _ rfl, ⟨rfl, rfl, rfl⟩, rfl, rfl, List.nodup_nil⟩
end
end K3
set_option maxHeartbeats 1000000
namespace K3
open PySem PySem.Spec PyProof.Rows L2
/-! ### t * 1 is t -/
theorem tuple_mul1 (l : Addr) (items : Array Value) (n : Nat) (dd : Option Addr) (sl : Array (Option Value)) (u : Tok) :
    Meets (Builtin.«tuple.__mul__» ⟨[.ref l, .int 1 u], []⟩) (fun _ R s => s.heap.get? l = some { cls := .type "tuple", dict := dd, data := .seq items n, slots := sl } ∧
      R (.ok (.ret (Value.ref l))) s) :=
  .of_wp fun prog w A R s h => by
    obtain ⟨hp, g, d, tk, os⟩ := s
    obtain ⟨hl, h⟩ := h
    have f1 := AutoSeq1.idx_int
    wp_walk using wpAny_loadPart' hl
    exact ⟨_, rfl, h⟩
@[irreducible] def rRep (K : PySem.W.Frag) : R2 := fun x y H Q => ∃ a k xs, x = .ref a ∧ y = .int k ∧ H a = some (.tup xs) ∧ xs ≠ [] ∧ 1 ≤ k ∧ k ≤ 1000 ∧ xs.length ≤ 1000 ∧
  ∀ p H', Same H H' → H' p = some (.tup (List.replicate k.toNat xs).flatten) → Q (.ref p) H'
theorem op_rep {X : Cx} (K : PySem.W.Frag) (h : X.K = K := by rfl) : OpR X (binaryOp .Mult) (rRep K) := by
  unfold rRep
  intro pins s σ H x y v u Q I rx ry ⟨a, k, xs, e1, e2, hT, hne, h1, h2, hz, q⟩
  by_cases hk : k = 1
  · subst e1 e2 hk
    cases rx
    obtain ⟨t, rfl⟩ := ry
    obtain ⟨its, r, ⟨⟨cls, dd, data, sl⟩, ho, hc, n, hd⟩, hs⟩ := I.tuple (SqT.of hT)
    simp only at hc hd
    subst hc hd
    have ti : ∀ s' : Shared, s'.TypeIs (.int 1 t) "int" := fun s' => typeIs_int s' 1 t
    have ta : s.TypeIs (.ref a) "tuple" := ⟨_, ho, rfl⟩
    refine wpAny_binaryOp_repeat_ref (by decide) ta ti
      noFill_tuple_mul F.fills_int_mul F.slot_int_rmul repeat_tuple F.slot_int_index.lookup ?_
    refine call_meets F.slot_int_rmul (ti s) F.entry_int_rmul
      (F.args_int_rmul_2 _ _) (int_rmul_tuple 1 t a its.toArray n dd sl) ?_
    refine ⟨ho, rfl, ta, ?_⟩
    refine call_meets F.slot_tuple_mul ta F.entry_tuple_mul
      (F.args_tuple_mul_2 _ _) (tuple_mul1 a its.toArray n dd sl t) ?_
    exact ⟨ho, .ref a, H, I, rfl, q a H (Same.refl H) (by rw [hT]; simp)⟩
  · exact op_repT pins s σ H x y v u Q I rx ry ⟨a, k, xs, e1, e2, SqT.of hT, hne, by omega, h2, hz, fun p hp => q p _ (same_upd hp) upd_same⟩
end K3
namespace K3
open PySem PySem.Spec PyProof.Rows L2
theorem pfd {X : Cx} {e : Expr} {ta : TE} {f : Str} {pos : Pos} (K : PySem.W.Frag) (he : PE X e ta) (hb : attributeBase e f X.env (eval e X.env) = eval e X.env := by rfl) (h : X.K = K := by rfl) : PE X (.Attribute e f pos) (tFld K ta f) := h ▸ pe_fld he hb
theorem flat_rep {α : Type} (x : α) : ∀ n : Nat, (List.replicate n [x]).flatten = List.replicate n x
  | 0 => rfl
  | n + 1 => by rw [List.replicate_succ, List.flatten_cons, flat_rep x n, List.replicate_succ]; rfl
theorem al_rep {α : Type} {R : V → α → Prop} {x : V} {d : α} (h : R x d) (n : Nat) : Al R (List.replicate n x) (List.replicate n d) :=
  ⟨by simp, fun i y e a b => by
    have a' := List.getElem?_eq_some_iff.mp a
    have b' := List.getElem?_eq_some_iff.mp b
    obtain ⟨_, ha⟩ := a'
    obtain ⟨_, hb⟩ := b'
    rw [List.getElem_replicate] at ha hb
    subst ha hb; exact h⟩
/-- a method of the class at C, called -/
structure Dfm (P : Program) (w : World) (K : PySem.W.Frag) (mg : Str → Option Value) (base : Heap) (C : Addr) (m : Str) (k : Nat) (ps : List Str) (sp : Sp) (f : Addr) (fd : FuncData) : Prop where
  ok : FnOk P w K mg base CX0 k f fd ps sp
  meth : Meth K C m f
  b : Binds K fd ps []
theorem but_pipe {P : Program} {w : World} {ks : KT} {C : Addr} {H H' : Hp} {p kdA c : Addr} {t : PI0} {xs : List Kp} (hc : CacheAt P w ks H c xs) (b : But c H H') (h : PipeAt C H p kdA c t) : PipeAt C H' p kdA c t := by
  obtain ⟨dx, h⟩ := h
  exact ⟨dx, b _ _ (fun z => by rw [z, hc.at_] at h; cases h) h⟩
theorem but_kd {P : Program} {w : World} {ks ks' : KT} {H H' : Hp} {a c : Addr} {xs : List Kp} (hc : CacheAt P w ks H c xs) (b : But c H H') (h : KdAt H a ks') : KdAt H' a ks' := by
  obtain ⟨kvs, h1, h2⟩ := h
  refine ⟨kvs, ?_, h2.mono (but_tups hc b)⟩
  rcases h1 with h1 | ⟨o, h1⟩
  · exact .inl (b _ _ (fun z => by rw [z, hc.at_] at h1; cases h1) h1)
  · exact .inr ⟨o, b _ _ (fun z => by rw [z, hc.at_] at h1; cases h1) h1⟩
theorem rd_cnotin {P : Program} {w : World} {ks : KT} {H : Hp} {x : V} {c : Addr} {xs : List Kp} {es : List E} {Q : VK} (hc : CacheAt P w ks H c xs) (he : EnsAt H x es) (k : Q (.bl (!(atKey (xs.map kx) (keyEs es)).isSome)) H) : rCNotIn P w ks x (.ref c) H Q := by
  unfold rCNotIn
  exact ⟨c, xs, es, rfl, hc, he, k⟩
theorem rd_cget {P : Program} {w : World} {ks : KT} {H : Hp} {y : V} {c : Addr} {xs : List Kp} {es : List E} {Q : VK} (hc : CacheAt P w ks H c xs) (he : EnsAt H y es) (hs : (atKey (xs.map kx) (keyEs es)).isSome = true)
    (k : ∀ v, EnsAt H v (agedS (kd ks) es) → Q v H) : rCGet P w ks (.ref c) y H Q := by
  unfold rCGet
  obtain ⟨p, hp⟩ := Option.isSome_iff_exists.mp hs
  obtain ⟨q, hq, e1, e2⟩ := at_mem hp
  rw [e2] at hp
  exact ⟨c, es, xs, q, rfl, hc, he, hp, k _ (by rw [← e1]; exact (hc.ok q hq).2)⟩
theorem rd_cset {P : Program} {w : World} {ks : KT} {H : Hp} {i v : V} {c : Addr} {xs : List Kp} {es : List E} {Q : Hp → Prop} (hc : CacheAt P w ks H c xs) (he : EnsAt H i es) (hn : atKey (xs.map kx) (keyEs es) = none) (hl : xs.length ≤ 100000) (hv : EnsAt H v (agedS (kd ks) es))
    (k : ∀ H' a b, But c H H' → CacheAt P w ks H' c (xs ++ [(es, a, b)]) → Q H') : rCSet P w ks (.ref c) i v H Q := by
  unfold rCSet
  obtain ⟨a, ys, rfl, h1⟩ := id he
  obtain ⟨b, zs, rfl, h2⟩ := id hv
  exact ⟨c, a, b, es, xs, rfl, rfl, rfl, hc, he, hn, hl, hv, fun H' b1 b2 => k H' _ _ b1 b2⟩
theorem at_old {xs ys : List Kp} {es : List E} (h : (atKey (xs.map kx) (keyEs es)).isSome = true) : (atKey ((xs ++ ys).map kx) (keyEs es)).isSome = true := by
  unfold atKey at *
  rw [Option.isSome_map] at *
  rw [List.map_append, List.find?_append]
  cases hh : List.find? (fun x => decide (x.1 = keyEs es)) (xs.map kx) with
  | none => rw [hh] at h; cases h
  | some p => rfl
theorem at_new (xs : List Kp) (es : List E) (a b : Addr) : (atKey ((xs ++ [(es, a, b)]).map kx) (keyEs es)).isSome = true := by
  unfold atKey
  rw [Option.isSome_map, List.map_append, List.find?_append]
  cases hh : List.find? (fun x => decide (x.1 = keyEs es)) (xs.map kx) with
  | some p => rfl
  | none =>
    have : List.find? (fun x => decide (x.1 = keyEs es)) ([(es, a, b)].map kx) = some (kx (es, a, b)) := by
      show List.find? _ [kx (es, a, b)] = _
      rw [List.find?_cons_of_pos]
      exact decide_eq_true rfl
    rw [this]; rfl
section
variable {P : Program} {w : World} {K : PySem.W.Frag} {mg : Str → Option Value} {base : Heap} {C : Addr}
/-! ### Pipe.start -/
def spStart (C : Addr) (t : PI0) : Sp := fun vs H Q _ => ∃ (p kdA c : Addr), vs = [.ref p] ∧ PipeAt C H p kdA c t ∧ 1 ≤ t.regs ∧ t.regs ≤ 4 ∧ ∀ v' H', Same H H' → StAt H' v' (List.replicate t.regs.toNat [("", 0, [])]) → Q v' H'
theorem scStart : FnScope ["self"] ["self"] (defScope sStart) := ⟨rfl, rfl, rfl, by decide +kernel, rfl, by decide +kernel, by decide +kernel⟩
theorem ok_start {t : PI0} {f : Addr} {fd : FuncData} (F : Fun K "start" "Pipe.start" sStart f fd) (T : Txt K mg) (TC : TxtC K mg C) : FnOk P w K mg base CX0 1 f fd ["self"] (spStart C t) := by
  refine F.ok scStart (fun vs H Q E h => ?_) (fun cdv A outer s H vs Q E hr h => ?_)
  · obtain ⟨p, kdA, c, rfl, _⟩ := h
    rfl
  · obtain ⟨p, kdA, c, rfl, ⟨dx, hp⟩, h1, h4, k⟩ := h
    refine ⟨_, pss_one (ps_ret (pe_op (op_rep K) (ptup (pa_cons (ptup (pa_cons (ptup (pa_cons pe_str (pa_cons (pgl T.P) pa_nil))) pa_nil)) pa_nil)) (pe_fld (pv 0) rfl))), ?_⟩
    refine rd_t2 fun p1 H1 s1 e1 => rd_t1 fun p2 H2 s2 e2 => rd_t1 fun p3 H3 s3 e3 => ?_
    have s13 := (s1.trans s2).trans s3
    refine ⟨_, rfl, p, C, dx, _, _, rfl, s13 _ _ hp, TC.cl, TC.nr, pfl_r, ?_⟩
    show rRep K (.ref p3) (.int t.regs) H3 _
    unfold rRep
    refine ⟨p3, t.regs, _, rfl, rfl, e3, (fun z => nomatch z), h1, by omega, (by show 1 ≤ 1000; decide), fun p4 H4 s4 e4 => ?_⟩
    rw [flat_rep] at e4
    have r1 : EnAt H4 (.ref p1) (("", 0, []) : K3.E) := ⟨p1, rfl, s4 _ _ (s3 _ _ (s2 _ _ e1))⟩
    have r2 : EnsAt H4 (.ref p2) [(("", 0, []) : K3.E)] := ⟨p2, _, rfl, s4 _ _ (s3 _ _ e2), Al.one r1⟩
    exact k _ _ (s13.trans s4) ⟨p4, _, rfl, e4, al_rep r2 _⟩
/-! ### Pipe.later -/
def spLater (P : Program) (w : World) (C : Addr) (t : PI0) : Sp := fun vs H Q _ => ∃ (p kdA c : Addr) (v : V) (st : List (List K3.E)) (xs : List Kp), vs = [.ref p, v] ∧ PipeAt C H p kdA c t ∧ KdAt H kdA t.ks ∧ CacheAt P w t.ks H c xs ∧ StAt H v st ∧ (∀ r ∈ st, RowOk t.ks r) ∧
  st.length ≤ 1000 ∧ xs.length + st.length ≤ 90000 ∧ ∀ v' H' xs', But c H H' → CacheAt P w t.ks H' c xs' → xs'.length ≤ xs.length + st.length → StAt H' v' (st.map (agedS (kd t.ks))) → Q v' H'
abbrev nLater : List Str := ["self", "standing", "entries"]
theorem scLater : FnScope nLater ["self", "standing"] (defScope sLater) := ⟨rfl, rfl, rfl, by decide +kernel, rfl, by decide +kernel, by decide +kernel⟩
theorem ok_later {t : PI0} {f fA : Addr} {fd fdA : FuncData} (F : Fun K "later" "Pipe.later" sLater f fd) (T : Txt K mg) (TC : TxtC K mg C) (DA : Dfn P w K mg base "aged" 2 ["kinds", "entries"] (spAged t.ks) fA fdA) : FnOk P w K mg base CX0 3 f fd ["self", "standing"] (spLater P w C t) := by
  refine F.ok scLater (fun vs H Q E h => ?_) (fun cdv A outer s H vs Q E hr h => ?_)
  · obtain ⟨p, kdA, c, v, st, xs, rfl, _⟩ := h
    rfl
  · obtain ⟨p, kdA, c, v, st, xs, rfl, hpipe, hkd, hc, ⟨A1, ys, rfl, hA, hall⟩, rok, hsz, hxs, k⟩ := h
    have nd := scLater.nd
    refine ⟨_, pss_cons (ps_for PassesOwn.never rfl (pi_tup (pv 1)) (pg_name (i := 2) nd rfl (.inl rfl))
        (pss_one (ps_if (pt_cmpR (op_cnotin P w t.ks hr.units) (pv 2) (pe_fld (pv 0) rfl) (by rfl))
          (pss_one (ps_asg (pcl DA hr (pa_cons (pe_fld (pv 0) rfl) (pa_cons (pv 2) pa_nil))) (pg_sub (pe_fld (pv 0) rfl) (pv 2) (set_c P w t.ks hr.units)))) pss_nil)))
      (pss_one (ps_ret (pe_callTy call_tuple_of (by rfl) T.tuple (by decide +kernel) (pa_cons
        (pe_lc (own := [("entries", 2)]) (g := gName 2) (by rfl) nd (pi_tup (pv 1)) (blkOk_by (N := nLater) (sc := defScope sLater) (by decide +kernel))
          (fun _ _ _ _ _ => pg_name (i := 2) nd rfl (.inl rfl)) (fun _ _ _ _ _ => pts_nil) (fun _ _ _ _ _ => pe_ix (ix_c P w t.ks hr.units) (pfd K (pv 0)) (pv 2) (fun _ _ => rfl))) pa_nil)))), ?_⟩
    refine ⟨_, rfl, A1, rfl, ⟨_, SqT.of hA⟩, for_tup (K := K) (xs := ys) (fun j σ' H' => (∃ v2, σ' = [some (.ref p), some (.ref A1), v2]) ∧ But c H H' ∧ ∃ xs', CacheAt P w t.ks H' c xs' ∧ xs'.length ≤ xs.length + j ∧ ∀ r ∈ st.take j, (atKey (xs'.map kx) (keyEs r)).isSome = true)
      ⟨⟨_, rfl⟩, fun b o _ e => e, xs, hc, Nat.le_refl _, fun r hr => by simp at hr⟩ (fun j σ' H' _ hh => SqT.of (but_tups hc hh.2.1 _ _ hA)) ?_ ?_⟩
    · rintro j y σ' H' hj ⟨⟨v2, rfl⟩, bt, xs', hc', hl', hin⟩
      obtain ⟨r, hrj, hy⟩ := hall.at hj
      have hjl : j < st.length := (List.getElem?_eq_some_iff.mp hrj).1
      have hy' := hy.mono (but_tups hc bt)
      obtain ⟨dx, hp'⟩ := but_pipe hc bt hpipe
      have rk := rok r (List.mem_of_getElem? hrj)
      refine ⟨_, rfl, _, rfl, p, C, dx, _, _, rfl, hp', TC.cl, TC.na, pfl_c, ?_⟩
      refine rd_cnotin hc' hy' ⟨_, rfl, ?_⟩
      cases hat : atKey (xs'.map kx) (keyEs r) with
      | some q =>
        refine iteF ⟨⟨_, rfl⟩, bt, xs', hc', by omega, fun r' hr' => ?_⟩
        rw [take_succ_at hrj] at hr'
        rcases List.mem_append.mp hr' with h | h
        · exact hin r' h
        · rw [List.mem_singleton] at h; subst h; rw [hat]; rfl
      | none =>
        refine iteT ?_
        refine ⟨_, rfl, p, C, dx, _, _, rfl, hp', TC.cl, TC.nk, pfl_k, _, rfl, kdA, _, r, rfl, but_kd hc bt hkd, hy', rk.kn, rk.tl, rk.sz, fun v' H'' s2 hv => ?_⟩
        refine ⟨_, rfl, p, C, dx, _, _, rfl, s2 _ _ hp', TC.cl, TC.na, pfl_c, _, rfl, ?_⟩
        refine rd_cset (hc'.same s2) (hy'.mono s2.tups) hat (by omega) hv fun H3 a b bt3 hc3 => ?_
        refine ⟨⟨_, rfl⟩, (bt.trans (s2.but c)).trans bt3, _, hc3, by simp; omega, fun r' hr' => ?_⟩
        rw [take_succ_at hrj] at hr'
        rcases List.mem_append.mp hr' with h | h
        · exact at_old (hin r' h)
        · rw [List.mem_singleton] at h; subst h; exact at_new _ _ _ _
    · rintro σ' H' ⟨⟨v2, rfl⟩, bt, xs', hc', hl', hin⟩
      rw [hall.1] at hl'
      rw [hall.1, List.take_length] at hin
      have hA' := but_tups hc bt _ _ hA
      obtain ⟨dx, hp'⟩ := but_pipe hc bt hpipe
      refine ⟨_, rfl, A1, rfl, ⟨_, SqT.of hA'⟩, fun D nD => lc_tup (K := K) (xs := ys) (fun j H'' => Same H' H'' ∧ ∃ acc, H'' D = some (.lst acc) ∧ Al (EnsAt H'') acc ((st.take j).map (agedS (kd t.ks))))
        ⟨same_upd nD, [], upd_same, Al.nil⟩ (fun j H'' _ hh => SqT.of (hh.1 _ _ hA')) ?_ ?_⟩
      · rintro j y H'' hj ⟨s2, acc, hD, hacc⟩
        obtain ⟨r, hrj, hy⟩ := hall.at hj
        have hjl : j < st.length := (List.getElem?_eq_some_iff.mp hrj).1
        refine ⟨rfl, ?_⟩
        refine ⟨_, rfl, p, C, dx, _, _, rfl, s2 _ _ hp', TC.cl, TC.na, pfl_c, _, rfl, ?_⟩
        refine rd_cget (hc'.same s2) ((hy.mono (but_tups hc bt)).mono s2.tups) (hin r (List.mem_of_getElem? hrj)) fun v' hv => ?_
        have hal : acc.length = j := by rw [hacc.1, List.length_map, take_len_at hrj]
        refine ⟨acc, hD, szl (by omega), s2.mut nD, acc ++ [v'], upd_same, ?_⟩
        have tp : Tups H'' (upd H'' D (.lst (acc ++ [v']))) := tups_lst hD
        rw [map_take_succ hrj]
        exact Al.snoc (hacc.mono fun _ _ z => EnsAt.mono tp z) (EnsAt.mono tp hv)
      rintro H2 ⟨s2, acc, hD, hacc⟩
      rw [hall.1, List.take_length] at hacc
      refine ⟨D, acc, rfl, .inl ⟨SqL.of hD, fun l hl => ?_⟩⟩
      have s3 := same_upd (o := HO.tup acc) hl
      refine k _ _ xs' (bt.trans ((s2.trans s3).but c)) (hc'.same (s2.trans s3)) hl' ⟨l, acc, rfl, upd_same, ?_⟩
      exact hacc.mono fun _ _ => EnsAt.mono s3.tups
end
end K3
namespace K3
open PySem PySem.Spec PyProof.Rows L2
theorem all_congr {α : Type} {l : List α} {p q : α → Bool} (h : ∀ x ∈ l, p x = q x) : l.all p = l.all q := by
  induction l with
  | nil => rfl
  | cons a l ih => rw [List.all_cons, List.all_cons, h a List.mem_cons_self, ih fun x hx => h x (List.mem_cons_of_mem _ hx)]
theorem any_congr {α : Type} {l : List α} {p q : α → Bool} (h : ∀ x ∈ l, p x = q x) : l.any p = l.any q := by
  induction l with
  | nil => rfl
  | cons a l ih => rw [List.any_cons, List.any_cons, h a List.mem_cons_self, ih fun x hx => h x (List.mem_cons_of_mem _ hx)]
/-- whether a register ends right, None where it is not told -/
def endR (ks : KT) (r : List E) : Option Bool := match endedF ks 9 r with
  | some r' => if okRow ks r' && (topE r').2.2.isEmpty then some (decide (((topE r').1, (topE r').2.1) = (("" : Str), (0 : Int)))) else none
  | none => none
theorem endR_some {ks : KT} {r : List E} {b : Bool} (h : endR ks r = some b) : ∃ r', endedF ks 9 r = some r' ∧ okRow ks r' = true ∧ (topE r').2.2 = [] ∧ b = decide (((topE r').1, (topE r').2.1) = (("" : Str), (0 : Int))) := by
  unfold endR at h
  cases h1 : endedF ks 9 r with
  | none => rw [h1] at h; cases h
  | some r' =>
    rw [h1] at h
    simp only [] at h
    cases h2 : okRow ks r' && (topE r').2.2.isEmpty with
    | false => rw [h2] at h; cases h
    | true =>
      rw [h2] at h
      rw [Bool.and_eq_true] at h2
      exact ⟨r', rfl, h2.1, List.isEmpty_iff.mp h2.2, (Option.some.inj h).symm⟩
/-- the answers of some, all of which are told -/
def oks {α β : Type} (f : α → Option β) : List α → Option (List β)
  | [] => some []
  | a :: l => match f a, oks f l with
    | some b, some bs => some (b :: bs)
    | _, _ => none
theorem oks_at {α β : Type} {f : α → Option β} : ∀ {l : List α} {bs : List β}, oks f l = some bs → bs.length = l.length ∧ ∀ (i : Nat) (a : α), l[i]? = some a → ∃ b, bs[i]? = some b ∧ f a = some b
  | [], bs, h => by cases h; exact ⟨rfl, fun i a z => by simp at z⟩
  | a :: l, bs, h => by
    unfold oks at h
    cases h1 : f a with
    | none => rw [h1] at h; cases h
    | some b =>
      cases h2 : oks f l with
      | none => rw [h1, h2] at h; cases h
      | some bs' =>
        rw [h1, h2] at h
        cases h
        obtain ⟨e1, e2⟩ := oks_at h2
        refine ⟨by simp [e1], fun i x z => ?_⟩
        cases i with
        | zero => simp at z; subst z; exact ⟨b, rfl, h1⟩
        | succ i => exact e2 i x (by simpa using z)
def endsS (ks : KT) (st : List (List E)) : Option Bool := (oks (endR ks) st).map fun bs => bs.all id
section
variable {P : Program} {w : World} {K : PySem.W.Frag} {mg : Str → Option Value} {base : Heap} {C : Addr}
def spEnds (C : Addr) (ti : PI0) : Sp := fun vs H Q _ => ∃ (p kdA c : Addr) (v : V) (st : List (List E)) (b : Bool), vs = [.ref p, v] ∧ PipeAt C H p kdA c ti ∧ KdAt H kdA ti.ks ∧ StAt H v st ∧ st.length ≤ 1000 ∧ endsS ti.ks st = some b ∧
  ∀ H', Same H H' → Q (.bl b) H'
abbrev nEnds : List Str := ["self", "standing", "entries"]
theorem scEnds : FnScope nEnds ["self", "standing"] (defScope sEnds) := ⟨rfl, rfl, rfl, by decide +kernel, rfl, by decide +kernel, by decide +kernel⟩
theorem dp_pair' {K : PySem.W.Frag} {H : Hp} {v : V} {e : E} (h : EnAt H v e) (h0 : e.2.2 = []) : Dp K H v (.tuple [.str e.1, .int e.2.1]) := by
  obtain ⟨a, rfl, h⟩ := h
  rw [h0] at h
  exact dp_pair h
theorem ok_ends {ti : PI0} {f fA : Addr} {fd fdA : FuncData} (F : Fun K "ends_right" "Pipe.ends_right" sEnds f fd) (T : Txt K mg) (TC : TxtC K mg C) (ko : KOk ti.ks) (DE : Dfn P w K mg base "ended" 3 ["kinds", "entries"] (spEnded ti.ks) fA fdA) : FnOk P w K mg base CX0 4 f fd ["self", "standing"] (spEnds C ti) := by
  refine F.ok scEnds (fun vs H Q E h => ?_) (fun cdv A outer s H vs Q E hr h => ?_)
  · obtain ⟨p, kdA, c, v, st, b, rfl, _⟩ := h
    rfl
  · obtain ⟨p, kdA, c, v, st, b0, rfl, ⟨dx, hp⟩, hkd, ⟨A1, ys, rfl, hA, hall⟩, hsz, hE, k⟩ := h
    have nd := scEnds.nd
    obtain ⟨bs, hbs, rfl⟩ := Option.map_eq_some_iff.mp hE
    obtain ⟨hbl, hba⟩ := oks_at hbs
    refine ⟨_, pss_one (ps_ret (pe_callB (cr_all rfl) (by rfl) T.all (by decide +kernel) (pa_cons
        (pe_lc (own := [("entries", 2)]) (g := gName 2) (by rfl) nd (pi_tup (pv 1)) (blkOk_by (N := nEnds) (sc := defScope sEnds) (by decide +kernel))
          (fun _ _ _ _ _ => pg_name (i := 2) nd rfl (.inl rfl)) (fun _ _ _ _ _ => pts_nil)
          (fun _ _ _ _ _ => pe_cmpR (eqDK K hr.units) (pe_ix (ixT K) (pcl DE hr (pa_cons (pfd K (pv 0)) (pa_cons (pv 2) pa_nil))) (pe_un un_neg pe_int) (fun _ _ => rfl)) (ptup (pa_cons (pgl T.W) (pa_cons (pgl T.P) pa_nil))) (nomark _))) pa_nil))), ?_⟩
    refine ⟨_, rfl, A1, rfl, ⟨_, SqT.of hA⟩, fun D nD => lc_tup (K := K) (xs := ys) (fun j H'' => Same H H'' ∧ H'' D = some (.lst ((bs.take j).map V.bl)))
      ⟨same_upd nD, upd_same⟩ (fun j H'' _ hh => SqT.of (hh.1 _ _ hA)) ?_ ?_⟩
    · rintro j y H'' hj ⟨s2, hD⟩
      obtain ⟨r, hrj, hy⟩ := hall.at hj
      obtain ⟨b, hbj, hb⟩ := hba j r hrj
      obtain ⟨r', hr1, hr2, hr3, rfl⟩ := endR_some hb
      have rok := okRow.row hr2
      have hjl : j < st.length := (List.getElem?_eq_some_iff.mp hrj).1
      refine ⟨rfl, ?_⟩
      refine ⟨_, rfl, p, C, dx, _, _, rfl, s2 _ _ hp, TC.cl, TC.nk, pfl_k, _, rfl, kdA, _, 9, r, r', rfl, hkd.same s2, hy.mono s2.tups, hr1, fun v' H3 s3 he => ?_⟩
      obtain ⟨b', zs, rfl, hb', hal⟩ := he
      obtain ⟨x, htop, hx⟩ := row_top hal rok.ne
      refine ⟨_, rfl, b', _, _, _, rfl, rfl, SqT.of hb', htop, ?_⟩
      refine rd_t2 fun p4 H4 s4 h4 => ?_
      have hkn := rok.kn _ (topE_mem rok.ne)
      have hok : PyData.strOk (topE r').1 = true := by
        rcases hkn with h | ⟨i, hi⟩
        · rw [h]; decide +kernel
        · exact ko.str _ _ hi
      refine ⟨_, _, dp_pair' (hx.mono s4.tups) hr3, dp_pair h4, shaped_pair hok, shaped_pair (by decide +kernel), _, (s3.trans s4) _ _ hD, ?_, (s2.trans (s3.trans s4)).mut nD, ?_⟩
      · rw [List.length_map, List.length_take]
        exact szl (by omega)
      · rw [upd_same, map_take_succ hbj, eqv_pair]
    rintro H2 ⟨s2, hD⟩
    rw [hall.1, ← hbl, List.take_length] at hD
    exact ⟨D, bs, rfl, SqL.of hD, k H2 s2⟩
end
end K3
namespace K3
open PySem PySem.Spec PyProof.Rows L2
def okIn (ks : KT) (n : Nat) (i : Ins) : Bool := (find ks i.kind).isSome && decide (-1 ≤ i.goal ∧ i.goal < n) && (i.srcs.all fun s => decide (0 ≤ s ∧ s < n)) && decide (i.srcs.length ≤ 1000)
theorem okIn.ok {ks : KT} {n : Nat} {i : Ins} (h : okIn ks n i = true) : InOk ks n i := by
  unfold okIn at h
  simp only [Bool.and_eq_true, List.all_eq_true, decide_eq_true_eq] at h
  obtain ⟨⟨⟨h1, h2⟩, h3⟩, h4⟩ := h
  exact ⟨Option.isSome_iff_exists.mp h1, h2, h3, h4⟩
def okSt (ks : KT) (st : List (List E)) : Bool := st.all (okRow ks) && decide (st.length ≤ 4)
theorem okSt.rows {ks : KT} {st : List (List E)} (h : okSt ks st = true) : ∀ r ∈ st, RowOk ks r := by
  unfold okSt at h
  simp only [Bool.and_eq_true, List.all_eq_true] at h
  exact fun r hr => okRow.row (h.1 r hr)
theorem okSt.len {ks : KT} {st : List (List E)} (h : okSt ks st = true) : st.length ≤ 4 := by
  unfold okSt at h
  simp only [Bool.and_eq_true, decide_eq_true_eq] at h
  exact h.2
/-- for how many ticks an instruction is held, and the standing then -/
def waitF (ti : PI0) (i : Ins) : Nat → List (List E) → Option (Nat × List (List E))
  | 0, _ => none
  | f + 1, st => if okSt ti.ks st && okIn ti.ks st.length i then (if heldS ti st i then (waitF ti i f (st.map (agedS (kd ti.ks)))).map (fun q => (q.1 + 1, q.2)) else some (0, st)) else none
def readsS (ti : PI0) (st : List (List E)) (i : Ins) : Bool := i.srcs.all fun s => canRead (kd ti.ks) (topE (rowAt st s))
/-- the standing behind the issue -/
def nextS (ti : PI0) (st : List (List E)) (i : Ins) (tl : List Int) : Option (List (List E)) :=
  if okSt ti.ks st && okIn ti.ks st.length i && okSt ti.ks (putS st i tl) && decide (tl.length ≤ 10) then some ((putS st i tl).map (agedS (kd ti.ks))) else none
def stepS (ti : PI0) (st : List (List E)) (i : Ins) : Option (Nat × Bool × List (List E)) :=
  match waitF ti i 9 st with
  | some (n, s) => match nextS ti s i [] with
    | some s' => some (n, readsS ti s i, s')
    | none => none
  | none => none
theorem waitF_le {ti : PI0} {i : Ins} : ∀ {f : Nat} {st : List (List E)} {n : Nat} {s : List (List E)}, waitF ti i f st = some (n, s) → n ≤ f
  | 0, _, _, _, h => by cases h
  | f + 1, st, n, s, h => by
    unfold waitF at h
    split at h
    · split at h
      · obtain ⟨⟨n', s'⟩, h1, h2⟩ := Option.map_eq_some_iff.mp h
        cases h2
        have := waitF_le h1
        exact Nat.succ_le_succ this
      · cases h; exact Nat.zero_le _
    · cases h
theorem putS_len {st : List (List E)} {i : Ins} {tl : List Int} (hg : i.goal < st.length) : (putS st i tl).length = st.length := by
  unfold putS
  split
  · rfl
  · simp only [List.length_append, List.length_take, List.length_cons, List.length_nil, List.length_drop]; omega
theorem stepS_some {ti : PI0} {st : List (List E)} {i : Ins} {n : Nat} {b : Bool} {st' : List (List E)} (h : stepS ti st i = some (n, b, st')) :
    ∃ s, waitF ti i 9 st = some (n, s) ∧ b = readsS ti s i ∧ nextS ti s i [] = some st' := by
  unfold stepS at h
  cases h1 : waitF ti i 9 st with
  | none => rw [h1] at h; cases h
  | some q =>
    obtain ⟨n', s⟩ := q
    rw [h1] at h
    simp only [] at h
    cases h2 : nextS ti s i [] with
    | none => rw [h2] at h; cases h
    | some s' => rw [h2] at h; cases h; exact ⟨s, rfl, rfl, h2⟩
theorem nextS_some {ti : PI0} {st : List (List E)} {i : Ins} {tl : List Int} {st' : List (List E)} (h : nextS ti st i tl = some st') :
    okSt ti.ks st = true ∧ InOk ti.ks st.length i ∧ okSt ti.ks (putS st i tl) = true ∧ tl.length ≤ 10 ∧ st' = (putS st i tl).map (agedS (kd ti.ks)) := by
  unfold nextS at h
  split at h
  · rename_i hh
    simp only [Bool.and_eq_true, decide_eq_true_eq] at hh
    exact ⟨hh.1.1.1, okIn.ok hh.1.1.2, hh.1.2, hh.2, (Option.some.inj h).symm⟩
  · cases h
section
variable {P : Program} {w : World} {K : PySem.W.Frag} {mg : Str → Option Value} {base : Heap} {C : Addr}
/-! ### Pipe.follow -/
def spFollow (P : Program) (w : World) (C : Addr) (ti : PI0) : Sp := fun vs H Q _ => ∃ (p kdA c : Addr) (v vi : V) (st : List (List E)) (i : Ins) (xs : List Kp) (n : Nat) (b : Bool) (st' : List (List E)), vs = [.ref p, v, vi] ∧ PipeAt C H p kdA c ti ∧ KdAt H kdA ti.ks ∧ CacheAt P w ti.ks H c xs ∧
  StAt H v st ∧ InAt H vi i ∧ stepS ti st i = some (n, b, st') ∧ xs.length ≤ 80000 ∧
  ∀ (r : Addr) (v' : V) H' xs', But c H H' → CacheAt P w ti.ks H' c xs' → xs'.length ≤ xs.length + 50 →
    H' r = some (.tup [.int n, .bl b, v']) → StAt H' v' st' → Q (.ref r) H'
abbrev nFollow : List Str := ["self", "standing", "instruction", "held", "reads", "source"]
theorem scFollow : FnScope nFollow ["self", "standing", "instruction"] (defScope sFollow) := ⟨rfl, rfl, rfl, by decide +kernel, rfl, by decide +kernel, by decide +kernel⟩
theorem ok_follow {ti : PI0} {f fH fL fP fC : Addr} {fd fdH fdL fdP fdC : FuncData} (F : Fun K "follow" "Pipe.follow" sFollow f fd) (T : Txt K mg) (TC : TxtC K mg C) (ko : KOk ti.ks)
    (DH : Dfn P w K mg base "is_held" 2 ["pipe", "standing", "instruction"] (spHeld C ti) fH fdH) (DL : Dfm P w K mg base C "later" 3 ["self", "standing"] (spLater P w C ti) fL fdL)
    (DP : Dfn P w K mg base "put_under_way" 1 ["standing", "instruction", "more"] (spPut ti.ks) fP fdP) (DC : Dfn P w K mg base "can_be_read" 1 ["kinds", "entry"] (spCan ti.ks) fC fdC) :
    FnOk P w K mg base CX0 4 f fd ["self", "standing", "instruction"] (spFollow P w C ti) := by
  refine F.ok scFollow (fun vs H Q E h => ?_) (fun cdv A outer s H vs Q E hr h => ?_)
  · obtain ⟨p, kdA, c, v, vi, st, i, xs, n, b, st', rfl, _⟩ := h
    rfl
  · obtain ⟨p, kdA, c, v, vi, st, i, xs, n, b0, st', rfl, hpipe, hkd, hc, hst, hin, hstep, hxs, k⟩ := h
    obtain ⟨sN, hwait, rfl, hnext⟩ := stepS_some hstep
    obtain ⟨okN, iokN, okP, _, rfl⟩ := nextS_some hnext
    have nd := scFollow.nd
    have hr1 : Room 1 _ := hr.mono (by decide)
    have hr2 : Room 2 _ := hr.mono (by decide)
    refine ⟨_, pss_cons (ps_set (i := 3) nd rfl (.inl rfl) pe_int)
      (pss_cons (ps_while PassesOwn.never (pt_val (pcl DH hr2 (pa_cons (pv 0) (pa_cons (pv 1) (pa_cons (pv 2) pa_nil)))))
        (pss_cons (ps_set (i := 1) nd rfl (.inr rfl) (pe_meth (pv 0) TC.cl DL.meth DL.ok hr DL.b .nil pass0 (pa_cons (pv 1) pa_nil)))
        (pss_one (ps_aug (i := 3) nd rfl (.inl rfl) pe_int ip_add))))
      (pss_cons (ps_set (i := 4) nd rfl (.inl rfl) (pe_callB (cr_all rfl) (by rfl) T.all (by decide +kernel) (pa_cons
        (pe_lc (own := [("source", 5)]) (g := gName 5) (by rfl) nd (pi_tup (pe_ix (ixT K) (pv 2) pe_int (fun _ _ => rfl))) (blkOk_by (N := nFollow) (sc := defScope sFollow) (by decide +kernel))
          (fun _ _ _ _ _ => pg_name (i := 5) nd rfl (.inl rfl)) (fun _ _ _ _ _ => pts_nil)
          (fun _ _ _ _ _ => pcl DC hr1 (pa_cons (pfd K (pv 0)) (pa_cons (pe_ix (ixT K) (pe_ix (ixT K) (pv 1) (pv 5) (fun _ _ => rfl)) (pe_un un_neg pe_int) (fun _ _ => rfl)) pa_nil)))) pa_nil)))
      (pss_one (ps_ret (ptup (pa_cons (pv 3) (pa_cons (pv 4) (pa_cons
        (pe_meth (pv 0) TC.cl DL.meth DL.ok hr DL.b .nil pass0 (pa_cons (pcl DP hr1 (pa_cons (pv 1) (pa_cons (pv 2) (pa_cons (ptup pa_nil) pa_nil)))) pa_nil)) pa_nil)))))))), ?_⟩
    let σ0 : V → Int → Option V → Option V → L2.St := fun v' n v4 v5 => [some (.ref p), some v', some vi, some (.int n), v4, v5]
    have nometh : (pfl ti.regs kdA ti.ho ti.od c).lookup ("later" : Str) = none := pfl_m (by decide +kernel) (by decide +kernel) (by decide +kernel) (by decide +kernel) (by decide +kernel)
    refine ⟨fun m σ' H' => ∃ (j d : Nat) (s : List (List K3.E)) (v' : V) (xs' : List Kp), waitF ti i m s = some (d, sN) ∧ j + d = n ∧ σ' = σ0 v' j none none ∧ But c H H' ∧ CacheAt P w ti.ks H' c xs' ∧ xs'.length ≤ xs.length + 4 * j ∧ StAt H' v' s,
      ⟨9, 0, n, st, v, xs, hwait, by omega, rfl, fun b o _ e => e, hc, by omega, hst⟩, ?_⟩
    rintro m σ' H' ⟨j, d, s0, v', xs', hw, hjd, rfl, bt, hc', hl', hst'⟩
    have hn9 := waitF_le hwait
    have tp := but_tups hc bt
    have hin' := hin.mono tp
    have hkd' := but_kd hc bt hkd
    obtain ⟨dx, hp'⟩ := but_pipe hc bt hpipe
    cases m with
    | zero => cases hw
    | succ m =>
    have hok : (okSt ti.ks s0 && okIn ti.ks s0.length i) = true := by
      cases h : okSt ti.ks s0 && okIn ti.ks s0.length i with
      | true => rfl
      | false => unfold waitF at hw; rw [h] at hw; cases hw
    unfold waitF at hw
    rw [if_pos hok] at hw
    rw [Bool.and_eq_true] at hok
    have rows := okSt.rows hok.1
    have lsz := okSt.len hok.1
    have iok := okIn.ok hok.2
    refine ⟨_, rfl, _, rfl, _, rfl, p, kdA, c, _, _, _, i, rfl, ⟨dx, hp'⟩, hkd', hst', hin', iok, rows, _, rfl, ?_⟩
    cases hh : heldS ti s0 i with
    | true =>
      rw [hh, if_pos rfl] at hw
      obtain ⟨⟨d', s'⟩, hw', e'⟩ := Option.map_eq_some_iff.mp hw
      simp only [Prod.mk.injEq] at e'
      obtain ⟨rfl, rfl⟩ := e'
      refine iteT ⟨fun σ'' H'' => ∃ (v'' : V) (xs'' : List Kp), σ'' = σ0 v'' ((j + 1 : Nat) : Int) none none ∧ But c H H'' ∧ CacheAt P w ti.ks H'' c xs'' ∧ xs''.length ≤ xs.length + 4 * (j + 1) ∧ StAt H'' v'' (s0.map (agedS (kd ti.ks))), fun σ'' H'' hN => ?_, ?_⟩
      · obtain ⟨v'', xs'', rfl, b2, c2, l2, s2⟩ := hN
        exact ⟨m, by omega, j + 1, d', _, v'', xs'', hw', by omega, rfl, b2, c2, l2, s2⟩
      · refine ⟨_, rfl, p, dx, _, rfl, hp', nometh, _, rfl, p, kdA, c, _, _, xs', rfl, ⟨dx, hp'⟩, hkd', hc', hst', rows, by omega, by omega, fun v'' H'' xs'' b2 c2 l2 s2 => ?_⟩
        refine ⟨_, rfl, _, _, rfl, rfl, ?_⟩
        exact ⟨v'', xs'', rfl, bt.trans b2, c2, by omega, s2⟩
    | false =>
      rw [hh, if_neg Bool.false_ne_true] at hw
      cases hw
      refine iteF ?_
      obtain ⟨a, b, rfl, ha, hb⟩ := id hin'
      obtain ⟨A1, ys, rfl, hA, hall⟩ := id hst'
      refine ⟨_, rfl, a, _, 2, _, rfl, rfl, SqT.of ha, rfl, b, rfl, ⟨_, SqT.of hb⟩, fun D nD => lc_tup (K := K) (xs := i.srcs.map V.int) (fun j H'' => Same H' H'' ∧ H'' D = some (.lst ((i.srcs.take j).map fun s => V.bl (canRead (kd ti.ks) (topE (rowAt sN s))))))
        ⟨same_upd nD, upd_same⟩ (fun j H'' _ hh => SqT.of (hh.1 _ _ hb)) ?_ ?_⟩
      · rintro j y H'' hj2 ⟨s2, hD⟩
        obtain ⟨g, hs0, rfl⟩ := map_at hj2
        obtain ⟨g0, g1⟩ := iok.srcs g (List.mem_of_getElem? hs0)
        obtain ⟨b', zs, hat, hB', hal⟩ := row_of hall g0 g1
        have rrow := rows _ (rowAt_mem g0 g1)
        obtain ⟨x, htop, hx⟩ := row_top hal rrow.ne
        have hkn := rrow.kn _ (topE_mem rrow.ne)
        refine ⟨rfl, ?_⟩
        refine ⟨_, rfl, p, C, dx, _, _, rfl, s2 _ _ hp', TC.cl, TC.nk, pfl_k, _, rfl, _, rfl, A1, _, _, _, rfl, rfl, SqT.of (s2 _ _ hA), hat, _, rfl, b', _, _, _, rfl, rfl, SqT.of (s2 _ _ hB'), htop, ?_⟩
        refine ⟨kdA, _, _, rfl, hkd'.same s2, hx.mono s2.tups, hkn, _, hD, ?_, s2.mut nD, ?_⟩
        · rw [List.length_map, List.length_take]
          have := iok.len
          exact szl (by omega)
        · rw [upd_same, map_take_succ hs0]
      · rintro H2 ⟨s2, hD⟩
        rw [List.length_map, List.take_length] at hD
        refine ⟨D, i.srcs.map (fun s => canRead (kd ti.ks) (topE (rowAt sN s))), rfl, ?_, ?_⟩
        · rw [List.map_map]; exact SqL.of hD
        rw [List.all_map]
        refine ⟨_, rfl, _, rfl, _, rfl, p, dx, _, rfl, s2 _ _ hp', nometh, _, rfl, _, rfl, ?_⟩
        refine rd_t0 fun p3 H3 s3 h3 => ?_
        have s23 := s2.trans s3
        refine ⟨_, _, _, i, p3, [], rfl, hst'.mono s23.tups, hin'.mono s23.tups, h3, Nat.zero_le _, iok, by omega, rows, fun v4 H4 s4 st4 => ?_⟩
        have s24 := s23.trans s4
        have pl : (putS sN i []).length = sN.length := putS_len iok.goal.2
        refine ⟨p, kdA, c, v4, _, xs', rfl, ⟨dx, s24 _ _ hp'⟩, hkd'.same s24, hc'.same s24, st4, okSt.rows okP, by rw [pl]; omega, by rw [pl]; omega, fun v5 H5 xs5 b5 c5 l5 s5 => ?_⟩
        refine rd_t3 fun p6 H6 s6 h6 => ?_
        rw [pl] at l5
        have ej : j = n := by omega
        subst ej
        refine k p6 v5 H6 xs5 (((bt.trans (s24.but c)).trans b5).trans (s6.but c)) (c5.same s6) (by omega) ?_ (s5.mono s6.tups)
        rw [h6]; rfl
end
end K3
namespace K3
open PySem PySem.Spec PyProof.Rows L2
/-- kinds as the law draws them -/
structure KiOk (i : KI) : Prop where
  s : 0 ≤ i.srcs ∧ i.srcs ≤ 2
  l : 1 ≤ i.len ∧ i.len ≤ 4
  w : ∀ x, i.way = some x → 1 ≤ x ∧ x < i.len
structure KtOk (ks : KT) : Prop where
  names : ks.map (·.1) = [("add" : Str)] ∨ ks.map (·.1) = [("add" : Str), ("put" : Str)]
  ok : ∀ q ∈ ks, KiOk q.2
theorem KvOk.len {H : Hp} : ∀ {kvs : List (Key × V)} {ks : KT}, KvOk H kvs ks → kvs.length = ks.length
  | [], [], _ => rfl
  | _ :: _, _ :: _, ⟨_, h⟩ => by rw [List.length_cons, List.length_cons, KvOk.len h]
  | [], _ :: _, h => h.elim
  | _ :: _, [], h => h.elim
theorem KvOk.at {H : Hp} : ∀ {kvs : List (Key × V)} {ks : KT} {i : Nat} {p : Key × V}, KvOk H kvs ks → kvs[i]? = some p → ∃ q, ks[i]? = some q ∧ kiAt H p q
  | _ :: _, _ :: _, 0, _, ⟨h, _⟩, e => by simp at e; subst e; exact ⟨_, rfl, h⟩
  | _ :: _, _ :: _, i + 1, _, ⟨_, h⟩, e => by
    obtain ⟨q, h1, h2⟩ := KvOk.at (i := i) h (by simpa using e)
    exact ⟨q, by simpa using h1, h2⟩
  | [], [], _, _, _, e => by simp at e
  | [], _ :: _, _, _, h, _ => h.elim
  | _ :: _, [], _, _, h, _ => h.elim
theorem KvOk.keys {H : Hp} : ∀ {kvs : List (Key × V)} {ks : KT}, KvOk H kvs ks → kvs.map (·.1) = (ks.map (·.1)).map Sum.inr
  | [], [], _ => rfl
  | _ :: _, _ :: _, ⟨⟨h1, _⟩, h⟩ => by
    rw [List.map_cons, List.map_cons, List.map_cons, KvOk.keys h, h1]
  | [], _ :: _, h => h.elim
  | _ :: _, [], h => h.elim
theorem names_ne : ("add" : Str) ≠ ("put" : Str) := by decide +kernel
theorem KtOk.nodup {ks : KT} (h : KtOk ks) : (ks.map (·.1)).Nodup := by
  rcases h.names with e | e
  · rw [e]; exact List.nodup_cons.mpr ⟨by simp, List.nodup_nil⟩
  · rw [e]
    exact List.nodup_cons.mpr ⟨fun z => names_ne (List.mem_singleton.mp z), List.nodup_cons.mpr ⟨by simp, List.nodup_nil⟩⟩
theorem KtOk.mem {ks : KT} (h : KtOk ks) {q : Str × KI} (hq : q ∈ ks) : q.1 = "add" ∨ q.1 = "put" := by
  have hm : q.1 ∈ ks.map (·.1) := List.mem_map_of_mem hq
  rcases h.names with e | e
  · rw [e] at hm; exact .inl (List.mem_singleton.mp hm)
  · rw [e] at hm
    rcases List.mem_cons.mp hm with h1 | h1
    · exact .inl h1
    · exact .inr (List.mem_singleton.mp h1)
theorem KtOk.len {ks : KT} (h : KtOk ks) : 1 ≤ ks.length ∧ ks.length ≤ 2 := by
  rw [← List.length_map (as := ks) (·.1)]
  rcases h.names with e | e <;> rw [e] <;> decide
theorem find_mem {ks : KT} {x : Str} {i : KI} (h : find ks x = some i) : (x, i) ∈ ks := by
  unfold find at h
  obtain ⟨q, h1, h2⟩ := Option.map_eq_some_iff.mp h
  have h3 : decide (q.1 = x) = true := List.find?_some (p := fun p : Str × KI => decide (p.1 = x)) h1
  have h4 := List.mem_of_find?_eq_some h1
  have h5 := of_decide_eq_true h3
  have : q = (x, i) := Prod.ext h5 h2
  rw [← this]; exact h4
theorem KtOk.kok {ks : KT} (h : KtOk ks) : KOk ks where
  no := by
    cases e : find ks "" with
    | none => rfl
    | some i =>
      rcases h.mem (find_mem e) with h1 | h1
      · exact absurd h1 (by show ¬ (("" : Str) = "add"); decide +kernel)
      · exact absurd h1 (by show ¬ (("" : Str) = "put"); decide +kernel)
  len := fun x i e => (h.ok _ (find_mem e)).l
  str := fun x i e => by
    rcases h.mem (find_mem e) with h1 | h1
    · have h1' : x = "add" := h1
      rw [h1']; decide +kernel
    · have h1' : x = "put" := h1
      rw [h1']; decide +kernel
section
variable {P : Program} {w : World} {K : PySem.W.Frag} {mg : Str → Option Value} {base : Heap} {C : Addr}
/-! ### is_kind_word -/
def spIsKW : Sp := fun vs H Q _ => ∃ x : Str, vs = [.str x] ∧ (x = "add" ∨ x = "put") ∧ ∀ H', Same H H' → Q (.bl true) H'
abbrev nIsKW : List Str := ["thing", "sign"]
theorem scIsKW : FnScope nIsKW ["thing"] (defScope sIsKW) := ⟨rfl, rfl, rfl, by decide +kernel, rfl, by decide +kernel, by decide +kernel⟩
abbrev abc : Str := "abcdefghijklmnopqrstuvwxyz"
theorem kw_facts {x : Str} (h : x = "add" ∨ x = "put") : x.length = 3 ∧ (x.cps.toList.all fun c => decide (c ∈ abc.cps.toList)) = true := by
  rcases h with rfl | rfl <;> decide +kernel
theorem ok_isKW {f : Addr} {fd : FuncData} (F : Fun K "is_word" "is_word" sIsKW f fd) (T : Txt K mg) : FnOk P w K mg base CX0 1 f fd ["thing"] spIsKW := by
  refine F.ok scIsKW (fun vs H Q E h => ?_) (fun cdv A outer s H vs Q E hr h => ?_)
  · obtain ⟨x, rfl, _⟩ := h
    rfl
  · obtain ⟨x, rfl, hx, k⟩ := h
    have nd := scIsKW.nd
    obtain ⟨hlen, hall⟩ := kw_facts hx
    refine ⟨_, pss_one (ps_ret (pe_and (pe_callB call_isi (by rfl) T.isinst (by decide +kernel) (pa_cons (pv 0) (pa_cons (pe_bltn (v := .ty "str") (by rfl) T.str (by decide +kernel) rfl) pa_nil)))
      (pe_and (pe_chain op_le op_le pe_int (pe_callB call_len_str (by rfl) T.len (by decide +kernel) (pa_cons (pv 0) pa_nil)) (pgl T.m5))
      (pe_one (pe_callB (cr_all rfl) (by rfl) T.all (by decide +kernel) (pa_cons
        (pe_lc (own := [("sign", 1)]) (g := gName 1) (by rfl) nd (pi_str (pv 0)) (blkOk_by (N := nIsKW) (sc := defScope sIsKW) (by decide +kernel))
          (fun _ _ _ _ _ => pg_name (i := 1) nd rfl (.inl rfl)) (fun _ _ _ _ _ => pts_nil)
          (fun _ _ _ _ _ => pe_cmpR op_in_sign (pv 1) (pgl T.L) rfl)) pa_nil)))))), ?_⟩
    refine ⟨_, rfl, .str x, .ty "str", .type "str", .type "str", true, rfl, .ty "str", .base (.str x), kit_ty (by decide +kernel), true, rfl, ?_⟩
    refine iteT ?_
    refine ⟨_, rfl, x, rfl, sz (by omega), _, _, rfl, rfl, _, rfl, ?_⟩
    rw [hlen]
    refine iteT ⟨_, _, rfl, rfl, _, rfl, ?_⟩
    refine iteT ?_
    have hsz : x.cps.size = 3 := hlen
    refine ⟨_, rfl, x, rfl, fun D nD => lc_it (walk_str (z := x)) (fun j H' => Same H H' ∧ H' D = some (.lst ((x.cps.toList.take j).map fun c => V.bl (decide (c ∈ abc.cps.toList)))))
      ⟨same_upd nD, upd_same⟩ (fun j H' _ hh => True.intro) ?_ ?_⟩
    · rintro j y H' H'' hj ⟨s2, hD⟩ ⟨rfl, c, hc, rfl⟩
      have hc' : x.cps.toList[j]? = some c := by rw [Array.getElem?_toList]; exact hc
      refine ⟨rfl, ?_⟩
      refine ⟨_, rfl, c, abc, rfl, rfl, _, hD, ?_, s2.mut nD, ?_⟩
      · rw [List.length_map, List.length_take]
        exact szl (by omega)
      · rw [upd_same, map_take_succ hc']
    rintro H2 ⟨s2, hD⟩
    refine ⟨D, x.cps.toList.map (fun c => decide (c ∈ abc.cps.toList)), rfl, ?_, ?_⟩
    · rw [List.map_map]
      have : x.cps.toList.take x.cps.size = x.cps.toList := by rw [← Array.length_toList]; exact List.take_length
      rw [this] at hD
      exact SqL.of hD
    rw [List.all_map]
    have : (x.cps.toList.all (id ∘ fun c => decide (c ∈ abc.cps.toList))) = true := hall
    rw [this]
    exact k H2 s2
/-! ### is_kind -/
def spIsK : Sp := fun vs H Q _ => ∃ (t : Addr) (i : KI), vs = [.ref t] ∧ H t = some (.tup [.int i.srcs, .int i.len, oV i.way]) ∧ KiOk i ∧ Q (.bl true) H
theorem scIsK : FnScope ["thing", "sources", "length", "way"] ["thing"] (defScope sIsK) := ⟨rfl, rfl, rfl, by decide +kernel, rfl, by decide +kernel, by decide +kernel⟩
theorem ok_isK {f fN : Addr} {fd fdN : FuncData} (F : Fun K "is_kind" "is_kind" sIsK f fd) (T : Txt K mg) (DN : Dfn P w K mg base "is_number" 1 ["thing"] spNum fN fdN) : FnOk P w K mg base CX0 2 f fd ["thing"] spIsK := by
  refine F.ok scIsK (fun vs H Q E h => ?_) (fun cdv A outer s H vs Q E hr h => ?_)
  · obtain ⟨x, i, rfl, _⟩ := h
    rfl
  · obtain ⟨t, i, rfl, ht, iok, k⟩ := h
    have nd := scIsK.nd
    refine ⟨_, pss_cons (ps_if (PW.pt (pw_or (pt_not (pt_val (pe_callB call_isi (by rfl) T.isinst (by decide +kernel) (pa_cons (pv 0) (pa_cons (pe_bltn (v := .ty "tuple") (by rfl) T.tuple (by decide +kernel) rfl) pa_nil)))))
        (pw_or1 (pt_cmpR op_ne (pe_callB call_len_seq (by rfl) T.len (by decide +kernel) (pa_cons (pv 0) pa_nil)) pe_int (nomark _))))) (pss_one (ps_ret pe_bl)) pss_nil)
      (pss_cons (ps_asg (pv 0) (pg_tup (by rfl) (pgs_cons (pg_name (i := 1) nd rfl (.inl rfl)) (pgs_cons (pg_name (i := 2) nd rfl (.inl rfl)) (pgs_cons (pg_name (i := 3) nd rfl (.inl rfl)) pgs_nil)))))
      (pss_cons (ps_if (PW.pt (pw_or (pt_not (pt_val (pcl DN hr (pa_cons (pv 1) pa_nil)))) (pw_or1 (pt_not (pt_chain op_le op_le pe_int (pv 1) (pgl T.m3)))))) (pss_one (ps_ret pe_bl)) pss_nil)
      (pss_cons (ps_if (PW.pt (pw_or (pt_not (pt_val (pcl DN hr (pa_cons (pv 2) pa_nil)))) (pw_or1 (pt_not (pt_chain op_le op_le pe_int (pv 2) (pgl T.m4)))))) (pss_one (ps_ret pe_bl)) pss_nil)
      (pss_one (ps_ret (pe_or (pe_cmp (pc_isN (pv 3)) rfl) (pe_one (pe_and (pcl DN hr (pa_cons (pv 3) pa_nil)) (pe_one (pe_chain op_le op_lt pe_int (pv 3) (pv 2))))))))))), ?_⟩
    refine ⟨_, rfl, .ref t, .ty "tuple", .type "tuple", .type "tuple", true, rfl, .ty "tuple", .base (.tup ht), kit_ty (by decide +kernel), true, rfl, ?_⟩
    refine iteF ?_
    refine ⟨_, rfl, t, _, rfl, .inr (SqT.of ht), rfl, _, rfl, ?_⟩
    refine iteF ?_
    refine ⟨_, rfl, t, _, rfl, SqT.of ht, rfl, _, _, rfl, _, _, rfl, _, _, rfl, rfl, ?_⟩
    refine ⟨_, rfl, i.srcs, rfl, true, rfl, ?_⟩
    refine iteF ?_
    refine ⟨_, rfl, _, _, rfl, rfl, _, rfl, ?_⟩
    rw [decide_eq_true iok.s.1]
    refine iteT ⟨_, _, rfl, rfl, _, rfl, ?_⟩
    rw [decide_eq_true iok.s.2]
    refine iteF ?_
    refine ⟨_, rfl, i.len, rfl, true, rfl, ?_⟩
    refine iteF ?_
    refine ⟨_, rfl, _, _, rfl, rfl, _, rfl, ?_⟩
    rw [decide_eq_true iok.l.1]
    refine iteT ⟨_, _, rfl, rfl, _, rfl, ?_⟩
    rw [decide_eq_true iok.l.2]
    refine iteF ?_
    refine ⟨_, rfl, _, rfl, ?_⟩
    cases hw : i.way with
    | none => exact iteT k
    | some x =>
      refine iteF ?_
      refine ⟨_, rfl, x, rfl, true, rfl, ?_⟩
      refine iteT ⟨_, rfl, _, _, rfl, rfl, _, rfl, ?_⟩
      rw [decide_eq_true (iok.w x hw).1]
      refine iteT ⟨_, rfl, _, _, rfl, rfl, ?_⟩
      show Q (.bl (decide (x < i.len))) H
      rw [decide_eq_true (iok.w x hw).2]
      exact k
end
end K3
namespace K3
open PySem PySem.Spec PyProof.Rows L2
theorem valV_at {kvs : List (Key × V)} : ∀ {i : Nat} {k : Key} {v : V}, (kvs.map (·.1)).Nodup → kvs[i]? = some (k, v) → valV kvs k = some v := by
  induction kvs with
  | nil => intro i k v _ h; simp at h
  | cons p kvs ih =>
    intro i k v nd h
    rw [List.map_cons, List.nodup_cons] at nd
    cases i with
    | zero => simp at h; subst h; exact valV_pos rfl
    | succ i =>
      have h' : kvs[i]? = some (k, v) := by simpa using h
      have hm : k ∈ kvs.map (·.1) := List.mem_map.mpr ⟨(k, v), List.mem_of_getElem? h', rfl⟩
      rw [valV_neg (fun e => nd.1 (by rw [e]; exact hm))]
      exact ih nd.2 h'
theorem valV_take {kvs : List (Key × V)} : ∀ {i : Nat} {k : Key} {v : V}, (kvs.map (·.1)).Nodup → kvs[i]? = some (k, v) → valV (kvs.take i) k = none := by
  induction kvs with
  | nil => intro i k v _ h; simp at h
  | cons p kvs ih =>
    intro i k v nd h
    rw [List.map_cons, List.nodup_cons] at nd
    cases i with
    | zero => rfl
    | succ i =>
      have h' : kvs[i]? = some (k, v) := by simpa using h
      have hm : k ∈ kvs.map (·.1) := List.mem_map.mpr ⟨(k, v), List.mem_of_getElem? h', rfl⟩
      rw [List.take_succ_cons, valV_neg (fun e => nd.1 (by rw [e]; exact hm))]
      exact ih nd.2 h'
theorem inr_nodup {xs : List Str} (h : xs.Nodup) : (xs.map (Sum.inr : Str → Key)).Nodup := by
  induction xs with
  | nil => exact List.nodup_nil
  | cons x xs ih =>
    rw [List.nodup_cons] at h
    rw [List.map_cons, List.nodup_cons]
    refine ⟨fun z => ?_, ih h.2⟩
    obtain ⟨y, hy, e⟩ := List.mem_map.mp z
    exact h.1 (by rw [← Sum.inr.inj e]; exact hy)
theorem sort_names {ys : List Str} {ks : KT} (h : KtOk ks) (p : ys.Perm (ks.map (·.1))) (s : sortedS ys = true) : ys = ks.map (·.1) := by
  rcases h.names with e | e
  · rw [e] at p ⊢
    exact List.perm_singleton.mp p
  · rw [e] at p ⊢
    have hl := p.length_eq
    match ys, hl with
    | [a, b], _ =>
      have ha : a = "add" ∨ a = "put" := by
        rcases List.mem_cons.mp (p.mem_iff.mp List.mem_cons_self) with h1 | h1
        · exact .inl h1
        · exact .inr (List.mem_singleton.mp h1)
      have hb : b = "add" ∨ b = "put" := by
        rcases List.mem_cons.mp (p.mem_iff.mp (List.mem_cons_of_mem _ List.mem_cons_self)) with h1 | h1
        · exact .inl h1
        · exact .inr (List.mem_singleton.mp h1)
      have nd : [a, b].Nodup := p.nodup_iff.mpr (List.nodup_cons.mpr ⟨fun z => names_ne (List.mem_singleton.mp z), List.nodup_cons.mpr ⟨by simp, List.nodup_nil⟩⟩)
      have hne : a ≠ b := fun z => (List.nodup_cons.mp nd).1 (by rw [z]; simp)
      rcases ha with rfl | rfl <;> rcases hb with rfl | rfl
      · exact absurd rfl hne
      · rfl
      · exfalso
        revert s
        decide +kernel
      · exact absurd rfl hne
/-- a comprehension of a dict over a walk -/
theorem dc_it {J : It} {n : Nat} {G : Hp → Prop} {Y : Nat → Hp → V → Hp → Prop} (wk : Walk J n G Y) {g : TG} {tt : TT} {tk tv : TE} {vs : List Nat} {σ : L2.St} {H1 : Hp} {D : Addr} {Qd : Hp → Prop}
    (Pv : Nat → Hp → Prop) (h0 : Pv 0 (upd H1 D (.dK []))) (hG : ∀ i H, i ≤ n → Pv i H → G H)
    (hs : ∀ i x H H', i < n → Pv i H → Y i H x H' → g x (wipe σ vs) H' fun σ2 H2 => wipe σ2 vs = wipe σ vs ∧ tt σ2 H2 fun b H3 => if b = true then tk σ2 H3 fun y H4 => tv σ2 H4 fun z H5 =>
      ∃ kvs k, y = kV k ∧ H5 D = some (.dK kvs) ∧ kvs.length < sizeLine ∧ Pv (i + 1) (upd H5 D (.dK (putK kvs k z))) else Pv (i + 1) H3)
    (hd : ∀ H, Pv n H → Qd H) : ∃ W : Nat → Nat → Hp → Prop, (∃ m, W 0 m (upd H1 D (.dK []))) ∧ ∀ i m H, W i m H →
      (J.stop i H ∧ Qd H) ∨ (J.go i H ∧ ∃ Nx : Hp → Prop, (∀ H', Nx H' → ∃ m', m' < m ∧ W (i + 1) m' H') ∧ ∀ x H', J.yld i H x H' →
        g x (wipe σ vs) H' fun σ2 H2 => wipe σ2 vs = wipe σ vs ∧ tt σ2 H2 fun b H3 => if b = true then tk σ2 H3 fun y H4 => tv σ2 H4 fun z H5 => ∃ kvs k, y = kV k ∧ H5 D = some (.dK kvs) ∧ kvs.length < sizeLine ∧ Nx (upd H5 D (.dK (putK kvs k z))) else Nx H3) := by
  refine ⟨fun i m H => m = n - i ∧ i ≤ n ∧ Pv i H, ⟨_, rfl, Nat.zero_le _, h0⟩, ?_⟩
  rintro i m H ⟨em, hi, pv⟩
  have gg := hG i H hi pv
  rcases Nat.lt_or_eq_of_le hi with hlt | e
  · refine .inr ⟨wk.goes i H hlt gg, Pv (i + 1), fun H' p' => ⟨n - (i + 1), by omega, rfl, hlt, p'⟩, fun x H' y => ?_⟩
    exact hs i x H H' hlt pv (wk.yields i H x H' hlt gg y)
  · subst e
    exact .inl ⟨wk.stops H gg, hd H pv⟩
section
variable {P : Program} {w : World} {K : PySem.W.Frag} {mg : Str → Option Value} {base : Heap} {C : Addr}
/-! ### are_kinds -/
def spAreK : Sp := fun vs H Q _ => ∃ (d : Addr) (kvs : List (Key × V)) (ks : KT), vs = [.ref d] ∧ H d = some (.dK kvs) ∧ KvOk H kvs ks ∧ KtOk ks ∧ ∀ H', Same H H' → Q (.bl true) H'
abbrev nAreK : List Str := ["kinds", "kind"]
theorem scAreK : FnScope nAreK ["kinds"] (defScope sAreK) := ⟨rfl, rfl, rfl, by decide +kernel, rfl, by decide +kernel, by decide +kernel⟩
theorem ok_areK {f fW fI : Addr} {fd fdW fdI : FuncData} (F : Fun K "are_kinds" "are_kinds" sAreK f fd) (T : Txt K mg) (DW : Dfn P w K mg base "is_word" 1 ["thing"] spIsKW fW fdW) (DI : Dfn P w K mg base "is_kind" 2 ["thing"] spIsK fI fdI) : FnOk P w K mg base CX0 3 f fd ["kinds"] spAreK := by
  refine F.ok scAreK (fun vs H Q E h => ?_) (fun cdv A outer s H vs Q E hr h => ?_)
  · obtain ⟨d, kvs, ks, rfl, _⟩ := h
    rfl
  · obtain ⟨d, kvs, ks, rfl, hd, hkv, kok, k⟩ := h
    have nd := scAreK.nd
    have hu := hu_of hr
    have hr1 : Room 1 _ := hr.mono (by decide)
    refine ⟨_, pss_cons (ps_if (PW.pt (pw_or (pt_not (pt_val (pe_callB call_isi (by rfl) T.isinst (by decide +kernel) (pa_cons (pv 0) (pa_cons (pe_bltn (v := .ty "dict") (by rfl) T.dict (by decide +kernel) rfl) pa_nil)))))
        (pw_or1 (pt_not (pt_chain op_le op_le pe_int (pe_callB call_lenD (by rfl) T.len (by decide +kernel) (pa_cons (pv 0) pa_nil)) (pgl T.m2)))))) (pss_one (ps_ret pe_bl)) pss_nil)
      (pss_one (ps_ret (pe_callB (cr_all rfl) (by rfl) T.all (by decide +kernel) (pa_cons (pe_lock
        (pe_lc (own := [("kind", 1)]) (g := gName 1) (by rfl) nd (pi_keys (pv 0)) (blkOk_by (N := nAreK) (sc := defScope sAreK) (by decide +kernel))
          (fun _ _ _ _ _ => pg_name (i := 1) nd rfl (.inl rfl)) (fun _ _ _ _ _ => pts_nil)
          (fun _ _ _ _ _ => pe_and (pcl DW hr1 (pa_cons (pv 1) pa_nil)) (pe_one (pcl DI hr (pa_cons (pe_dget hu (pv 0) (pv 1) (fun _ _ => rfl)) pa_nil)))))) pa_nil)))), ?_⟩
    have hlen := hkv.len
    have hkl := kok.len
    refine ⟨_, rfl, .ref d, .ty "dict", .type "dict", .type "dict", true, rfl, .ty "dict", .base (.dK hd), kit_ty (by decide +kernel), true, rfl, ?_⟩
    refine iteF ?_
    refine ⟨_, rfl, d, kvs, rfl, hd, _, _, rfl, rfl, _, rfl, ?_⟩
    rw [decide_eq_true (show (1 : Int) ≤ (kvs.length : Int) by omega)]
    refine iteT ⟨_, _, rfl, rfl, _, rfl, ?_⟩
    rw [decide_eq_true (show (kvs.length : Int) ≤ 4 by omega)]
    refine iteF ?_
    refine ⟨d, _, hd, True.intro, fun od => ⟨_, rfl, d, od, rfl, .inl ⟨kvs, upd_same, fun D nD => ?_⟩⟩⟩
    let Hf := upd H d (.frz od (.dK kvs))
    have hf : Hf d = some (.frz od (.dK kvs)) := upd_same
    have tf : Tups H Hf := fun b ys e => by
      have : b ≠ d := fun z => by rw [z, hd] at e; cases e
      show upd H d _ b = _
      rw [upd_ne this]; exact e
    have kndp : (kvs.map (·.1)).Nodup := by rw [hkv.keys]; exact inr_nodup kok.nodup
    refine lc_it (walk_keys (d := d) (o := od) (kvs := kvs)) (fun j H'' => Same Hf H'' ∧ H'' D = some (.lst ((kvs.take j).map fun _ => V.bl true)))
      ⟨same_upd nD, upd_same⟩ (fun j H'' _ hh => hh.1 _ _ hf) ?_ ?_
    · rintro j y H'' H3 hj ⟨s2, hD⟩ ⟨rfl, ky, vy, hky, rfl⟩
      obtain ⟨q, hq, h1, t, h2, ht⟩ := hkv.at hky
      have hqm := List.mem_of_getElem? hq
      have e1 : ky = Sum.inr q.1 := h1
      have e2 : vy = .ref t := h2
      subst e1 e2
      refine ⟨rfl, ?_⟩
      refine ⟨_, rfl, q.1, rfl, kok.mem hqm, fun H4 s4 => ⟨true, rfl, ?_⟩⟩
      refine iteT ?_
      have s24 := s2.trans s4
      refine ⟨_, rfl, _, rfl, d, .ref t, rfl, ?_, t, q.2, rfl, s24 _ _ (tf _ _ ht), kok.ok q hqm, ?_⟩
      · rw [← valV_at kndp hky]
        exact .inl ⟨kvs, Sum.inr q.1, .inr ⟨od, s24 _ _ hf⟩, rfl, rfl⟩
      refine ⟨_, s4 _ _ hD, ?_, s24.mut nD, ?_⟩
      · rw [List.length_map, List.length_take]
        exact szl (by omega)
      · rw [upd_same, map_take_succ hky]
    · rintro H2 ⟨s2, hD⟩
      rw [List.take_length] at hD
      have hDd : D ≠ d := fun z => by
        rw [z] at nD
        have : (Hf d) = none := nD
        rw [hf] at this; cases this
      refine ⟨s2 _ _ hf, D, kvs.map (fun _ => true), rfl, ?_, ?_⟩
      · rw [List.map_map]
        refine SqL.of ?_
        rw [upd_ne hDd]; exact hD
      · have : (kvs.map (fun _ => true)).all id = true := by
          rw [List.all_map]; exact List.all_eq_true.mpr fun _ _ => rfl
        rw [this]
        refine k _ fun b o e => ?_
        by_cases hb : b = d
        · subst hb
          rw [upd_same, ← e, hd]
        · rw [upd_ne hb]
          refine s2 _ _ ?_
          show upd H d _ b = _
          rw [upd_ne hb]; exact e
end
end K3
namespace K3
open PySem PySem.Spec PyProof.Rows L2
theorem putF_ne {f g : Str} {v x : V} {r : List (Str × V)} (h : ¬ g = f) : putF f v ((g, x) :: r) = (g, x) :: putF f v r := by
  show (if g = f then _ else _) = _
  rw [if_neg h]
theorem pf1 (r : Int) : putF "registers" (.int r) [] = [(("registers" : Str), V.int r)] := rfl
theorem pf2 (r : Int) (a : Addr) : putF "kinds" (.ref a) (putF "registers" (.int r) []) = [(("registers" : Str), V.int r), (("kinds" : Str), V.ref a)] := by
  rw [pf1, putF_ne (by decide +kernel)]; rfl
theorem pf3 (r : Int) (a : Addr) (ho : Bool) : putF "holds" (.bl ho) (putF "kinds" (.ref a) (putF "registers" (.int r) [])) = [(("registers" : Str), V.int r), (("kinds" : Str), V.ref a), (("holds" : Str), V.bl ho)] := by
  rw [pf2, putF_ne (by decide +kernel), putF_ne (by decide +kernel)]; rfl
theorem pf4 (r : Int) (a : Addr) (ho od : Bool) : putF "orders" (.bl od) (putF "holds" (.bl ho) (putF "kinds" (.ref a) (putF "registers" (.int r) []))) = [(("registers" : Str), V.int r), (("kinds" : Str), V.ref a), (("holds" : Str), V.bl ho), (("orders" : Str), V.bl od)] := by
  rw [pf3, putF_ne (by decide +kernel), putF_ne (by decide +kernel), putF_ne (by decide +kernel)]; rfl
theorem pfl_eq (r : Int) (kdA : Addr) (ho od : Bool) (c : Addr) : putF "_aged" (.ref c) (putF "orders" (.bl od) (putF "holds" (.bl ho) (putF "kinds" (.ref kdA) (putF "registers" (.int r) [])))) = pfl r kdA ho od c := by
  rw [pf4, putF_ne (by decide +kernel), putF_ne (by decide +kernel), putF_ne (by decide +kernel), putF_ne (by decide +kernel)]; rfl
section
variable {P : Program} {w : World} {K : PySem.W.Frag} {mg : Str → Option Value} {base : Heap} {C : Addr}
def spInit (P : Program) (w : World) (C : Addr) : Sp := fun vs H Q _ => ∃ (p dx d : Addr) (t : PI0) (kvs : List (Key × V)), vs = [.ref p, .int t.regs, .ref d, .bl t.ho, .bl t.od] ∧ H p = some (.ins C dx []) ∧ 1 ≤ t.regs ∧ t.regs ≤ 4 ∧ H d = some (.dK kvs) ∧ KvOk H kvs t.ks ∧ KtOk t.ks ∧
  ∀ H' kdA c, But p H H' → PipeAt C H' p kdA c t → KdD H' kdA t.ks → CacheAt P w t.ks H' c [] → H c = none → Q .non H'
abbrev nInit : List Str := ["self", "registers", "kinds", "holds", "orders", "kind"]
theorem scInit : FnScope nInit ["self", "registers", "kinds", "holds", "orders"] (defScope sInit) := ⟨rfl, rfl, rfl, by decide +kernel, rfl, by decide +kernel, by decide +kernel⟩
theorem ok_init {f fN fA : Addr} {fd fdN fdA : FuncData} (F : Fun K "__init__" "Pipe.__init__" sInit f fd) (T : Txt K mg) (TC : TxtC K mg C) (DN : Dfn P w K mg base "is_number" 1 ["thing"] spNum fN fdN) (DA : Dfn P w K mg base "are_kinds" 3 ["kinds"] spAreK fA fdA) :
    FnOk P w K mg base CX0 4 f fd ["self", "registers", "kinds", "holds", "orders"] (spInit P w C) := by
  refine F.ok scInit (fun vs H Q E h => ?_) (fun cdv A outer s H vs Q E hr h => ?_)
  · obtain ⟨p, dx, d, t, kvs, rfl, _⟩ := h
    rfl
  · obtain ⟨p, dx, d, t, kvs, rfl, hp, h1, h4, hd, hkv, kok, k⟩ := h
    have nd := scInit.nd
    have hu := hu_of hr
    have hr1 : Room 1 _ := hr.mono (by decide)
    refine ⟨_, pss_cons (ps_if (PW.pt (pw_or (pt_not (pt_val (pcl DN hr1 (pa_cons (pv 1) pa_nil)))) (pw_or1 (pt_not (pt_chain op_le op_le pe_int (pv 1) (pgl T.m1)))))) (pss_one ps_never) pss_nil)
      (pss_cons (ps_if (pt_not (pt_val (pcl DA hr (pa_cons (pv 2) pa_nil)))) (pss_one ps_never) pss_nil)
      (pss_cons (ps_if (pt_not (pt_val (pe_callB call_isi (by rfl) T.isinst (by decide +kernel) (pa_cons (pv 3) (pa_cons (pe_bltn (v := .ty "bool") (by rfl) T.bool (by decide +kernel) rfl) pa_nil))))) (pss_one ps_never) pss_nil)
      (pss_cons (ps_if (pt_not (pt_val (pe_callB call_isi (by rfl) T.isinst (by decide +kernel) (pa_cons (pv 4) (pa_cons (pe_bltn (v := .ty "bool") (by rfl) T.bool (by decide +kernel) rfl) pa_nil))))) (pss_one ps_never) pss_nil)
      (pss_cons (ps_fld (pv 0) (pv 1) rfl)
      (pss_cons (ps_fld (pv 0) (pe_dc (own := [("kind", 5)]) (g := gName 5) (by rfl) nd (pi_list (pe_callB (call_sortedD rfl) (by rfl) T.sorted (by decide +kernel) (pa_cons (pv 2) pa_nil))) (blkOk_by (N := nInit) (sc := defScope sInit) (by decide +kernel))
          (fun _ _ _ _ _ => pg_name (i := 5) nd rfl (.inl rfl)) (fun _ _ _ _ _ => pts_nil) (fun _ _ _ _ _ => pv 5) (fun _ _ _ _ _ => pe_dget hu (pv 2) (pv 5) (fun _ _ => rfl))) rfl)
      (pss_cons (ps_fld (pv 0) (pv 3) rfl)
      (pss_cons (ps_fld (pv 0) (pv 4) rfl)
      (pss_one (ps_fld (pv 0) (pe_dnewC P w) rfl))))))))), ?_⟩
    have kndp : (kvs.map (·.1)).Nodup := by rw [hkv.keys]; exact inr_nodup kok.nodup
    have hkl := kok.len
    have hkvl := hkv.len
    have ndp : d ≠ p := ne_of hd hp (by intro z; cases z)
    -- the tests
    refine ⟨_, rfl, t.regs, rfl, true, rfl, ?_⟩
    refine iteF ?_
    refine ⟨_, rfl, _, _, rfl, rfl, _, rfl, ?_⟩
    rw [decide_eq_true h1]
    refine iteT ⟨_, _, rfl, rfl, _, rfl, ?_⟩
    rw [decide_eq_true h4]
    refine iteF ?_
    refine ⟨_, rfl, d, kvs, t.ks, rfl, hd, hkv, kok, fun H1 s1 => ⟨true, rfl, ?_⟩⟩
    refine iteF ?_
    refine ⟨_, rfl, .bl t.ho, .ty "bool", .type "bool", .type "bool", true, rfl, .ty "bool", .base (.bl t.ho), kit_ty (by decide +kernel), true, rfl, ?_⟩
    refine iteF ?_
    refine ⟨_, rfl, .bl t.od, .ty "bool", .type "bool", .type "bool", true, rfl, .ty "bool", .base (.bl t.od), kit_ty (by decide +kernel), true, rfl, ?_⟩
    refine iteF ?_
    -- self.registers = registers
    have hp1 := s1 _ _ hp
    refine ⟨_, rfl, _, rfl, p, C, dx, [], rfl, hp1, TC.cl, TC.nr, (by show 0 < 1000; decide), ?_⟩
    let H2 := upd H1 p (.ins C dx (putF "registers" (.int t.regs) []))
    have hp2 : H2 p = some (.ins C dx (putF "registers" (.int t.regs) [])) := upd_same
    have b2 : But p H H2 := fun b o n e => by
      show upd H1 p _ b = _
      rw [upd_ne n]; exact s1 _ _ e
    have hd2 : H2 d = some (.dK kvs) := b2 _ _ ndp hd
    have tp : ∀ {H'' : Hp}, But p H H'' → Tups H H'' := fun bb b ys e => bb _ _ (fun z => by rw [z, hp] at e; cases e) e
    -- self.kinds = {..}
    refine ⟨_, rfl, d, kvs, t.ks.map (·.1), rfl, .inl hd2, hkv.keys, by rw [List.length_map]; omega, fun ys q perm srt nq => ?_⟩
    have eys := sort_names kok perm srt
    subst eys
    have s3 := same_upd (o := HO.lst ((t.ks.map (·.1)).map V.str)) nq
    refine ⟨q, rfl, ⟨_, SqL.of upd_same⟩, fun D nD => dc_it (walk_list (K := K) (a := q) (xs := (t.ks.map (·.1)).map V.str)) (fun j H'' => Same H2 H'' ∧ H'' q = some (.lst ((t.ks.map (·.1)).map V.str)) ∧ H'' D = some (.dK (kvs.take j)))
      ⟨s3.trans (same_upd nD), (same_upd nD) _ _ upd_same, upd_same⟩ (fun j H'' _ hh => SqL.of hh.2.1) ?_ ?_⟩
    · rintro j y H'' H3 hj ⟨s4, hq4, hD4⟩ ⟨rfl, hy⟩
      obtain ⟨x, hx, rfl⟩ := map_at hy
      rw [List.getElem?_map] at hx
      obtain ⟨kq, hkq, rfl⟩ := Option.map_eq_some_iff.mp hx
      have hjl : j < kvs.length := by
        have := (List.getElem?_eq_some_iff.mp hkq).1
        omega
      have hkj : kvs[j]? = some kvs[j] := List.getElem?_eq_getElem hjl
      obtain ⟨kq', hkq', e1, ta, e2, hta⟩ := hkv.at hkj
      rw [hkq] at hkq'
      cases hkq'
      have ekv : kvs[j]? = some (Sum.inr kq.1, .ref ta) := by rw [hkj, ← e1, ← e2]
      refine ⟨rfl, ?_⟩
      refine ⟨_, rfl, _, rfl, _, rfl, d, .ref ta, rfl, ?_, ?_⟩
      · rw [← valV_at kndp ekv]
        exact .inl ⟨kvs, Sum.inr kq.1, .inl (s4 _ _ hd2), rfl, rfl⟩
      refine ⟨kvs.take j, Sum.inr kq.1, rfl, hD4, ?_, ?_, ?_, ?_⟩
      · rw [List.length_take]; exact szl (by omega)
      · have nD2 : H2 D = none := (s3).free nD
        exact s4.mut nD2
      · have : q ≠ D := fun z => by rw [z, hD4] at hq4; cases hq4
        rw [upd_ne this]; exact hq4
      · rw [upd_same, putK_new _ (valV_take kndp ekv), take_succ_at ekv]
    · rintro H4 ⟨s4, hq4, hD4⟩
      rw [List.length_map, List.length_map, ← hkvl, List.take_length] at hD4
      have nDp : D ≠ p := fun z => by
        have : H2 D = none := s3.free nD
        rw [z, hp2] at this; cases this
      have hp4 := s4 _ _ hp2
      refine ⟨_, rfl, p, C, dx, _, rfl, hp4, TC.cl, TC.nk, (by show 1 < 1000; decide), ?_⟩
      -- self.holds, self.orders
      have hl2 : (putF "kinds" (.ref D) (putF "registers" (.int t.regs) [])).length < 1000 := by
        rw [pf2]; show 2 < 1000; decide
      refine ⟨_, rfl, _, rfl, p, C, dx, _, rfl, upd_same, TC.cl, TC.nh, hl2, ?_⟩
      have hl3 : (putF "holds" (.bl t.ho) (putF "kinds" (.ref D) (putF "registers" (.int t.regs) []))).length < 1000 := by
        rw [pf3]; show 3 < 1000; decide
      refine ⟨_, rfl, _, rfl, p, C, dx, _, rfl, upd_same, TC.cl, TC.no, hl3, ?_⟩
      have hl4 : (putF "orders" (.bl t.od) (putF "holds" (.bl t.ho) (putF "kinds" (.ref D) (putF "registers" (.int t.regs) [])))).length < 1000 := by
        rw [pf4]; show 4 < 1000; decide
      intro c nc
      have ncp : p ≠ c := fun z => by rw [← z, upd_same] at nc; cases nc
      refine ⟨_, rfl, p, C, dx, _, rfl, (by rw [upd_ne ncp]; exact upd_same), TC.cl, TC.na, hl4, ?_⟩
      rw [pfl_eq]
      -- what stands now
      have b4 : But p H H4 := fun b o n e => s4 _ _ (b2 b o n e)
      have ncD : D ≠ c := fun z => by rw [← z, upd_ne nDp, upd_ne nDp, upd_ne nDp, hD4] at nc; cases nc
      have nc4 : H4 c = none := by
        rw [upd_ne ncp.symm, upd_ne ncp.symm, upd_ne ncp.symm] at nc
        exact nc
      have b5 : ∀ {o5 o6 o7 o8 o9 : HO}, But p H (upd (upd (upd (upd (upd H4 p o5) p o6) p o7) c o8) p o9) := fun {o5 o6 o7 o8 o9} b o n e => by
        have h4 := b4 b o n e
        have nbc : b ≠ c := fun z => by rw [z, nc4] at h4; cases h4
        rw [upd_ne n, upd_ne nbc, upd_ne n, upd_ne n, upd_ne n]; exact h4
      refine k _ D c b5 ⟨dx, upd_same⟩ ⟨kvs, ?_, hkv.mono (tp b5)⟩ ⟨?_, fun _ h => by cases h⟩ ?_
      · rw [upd_ne nDp, upd_ne ncD, upd_ne nDp, upd_ne nDp, upd_ne nDp]; exact hD4
      · rw [upd_ne ncp.symm, upd_same]
      · cases e : H c with
        | none => rfl
        | some o =>
          have := b4 c o ncp.symm e
          rw [nc4] at this
          cases this
end
end K3
namespace K3
open PySem PySem.Spec PyProof.Rows L2
theorem fmod_rng {a b : Int} (h : 0 < b) : 0 ≤ a.fmod b ∧ a.fmod b < b := by
  rw [Int.fmod_eq_emod_of_nonneg _ (Int.le_of_lt h)]
  exact ⟨Int.emod_nonneg _ (Int.ne_of_gt h), Int.emod_lt_of_pos _ h⟩
theorem dp_ints {K : PySem.W.Frag} {H : Hp} : ∀ ns : List Int, DpAll K H (ns.map V.int) (ns.map PyData.int)
  | [] => .nil
  | n :: ns => .cons (.int n) (dp_ints ns)
theorem shaped_ints (ns : List Int) : SeqAt.shaped (.list (ns.map PyData.int)) = true := by
  have h1 : PyData.canLayAll0 (ns.map PyData.int) = true := by
    induction ns with
    | nil => rfl
    | cons n ns ih => rw [List.map_cons]; unfold PyData.canLayAll0; rw [ih]; rfl
  have h2 : PyData.depthAll (ns.map PyData.int) ≤ 1 := by
    clear h1
    induction ns with
    | nil => exact Nat.zero_le _
    | cons n ns ih =>
      rw [List.map_cons]; unfold PyData.depthAll
      have : (PyData.int n).depth = 0 := rfl
      rw [this]; omega
  unfold SeqAt.shaped PyData.canLay0 PyData.depth
  rw [h1, Bool.true_and]
  exact decide_eq_true (by omega)
theorem eqv_empty (ds : List PyData) : PyData.eqv (.list ds) (.list []) = ds.isEmpty := by
  cases ds <;> rfl
section
variable {P : Program} {w : World} {K : PySem.W.Frag} {mg : Str → Option Value} {base : Heap} {C : Addr}
/-! ### _law_draw -/
def spDraw (K : PySem.W.Frag) : Sp := fun vs H Q _ => ∃ (a : Addr) (ns : List Int) (n m : Int), vs = [.ref a, .int n, .int m] ∧ SqL K H a (ns.map V.int) ∧ ns.length ≤ 63 ∧ 0 ≤ n ∧ n ≤ 100000 ∧ 1 ≤ m ∧ m ≤ 100000 ∧ ∀ H' r, Same H H' → 0 ≤ r → r < m → Q (.int r) H'
theorem scDraw : FnScope ["script", "at", "many", "row", "cell", "turn", "step", "mixed"] ["script", "at", "many"] (defScope sDraw) := ⟨rfl, rfl, rfl, by decide +kernel, rfl, by decide +kernel, by decide +kernel⟩
theorem ok_draw {f : Addr} {fd : FuncData} (F : Fun K "_law_draw" "_law_draw" sDraw f fd) (T : Txt K mg) : FnOk P w K mg base CX0 1 f fd ["script", "at", "many"] (spDraw K) := by
  refine F.ok scDraw (fun vs H Q E h => ?_) (fun cdv A outer s H vs Q E hr h => ?_)
  · obtain ⟨a, ns, n, m, rfl, _⟩ := h
    rfl
  · obtain ⟨a, ns, n, m, rfl, hS, hlen, n0, n1, m0, m1, k⟩ := h
    have nd := scDraw.nd
    refine ⟨_, Evl.pss_cut (ps_set (i := 3) nd rfl (.inl rfl) (pe_ifExp (pt_cmpR (neDK K hr.units) (pv 0) (plst pa_nil) (nomark _)) (pe_slice sl_list (pv 0) po_none (po_some pe_int)) (plst (pa_cons pe_int pa_nil))))
      (pss_cons (ps_par (i := 4) (j := 5) (by rfl) nd rfl rfl (by decide) rfl rfl (pa_cons (pe_ix (ixL K) (pv 3) (pe_op op_modN (pv 1) (pe_callB call_len_seq (by rfl) T.len (by decide +kernel) (pa_cons (pv 3) pa_nil))) (fun _ _ => rfl))
          (pa_cons (pe_op op_fdivN (pv 1) (pe_callB call_len_seq (by rfl) T.len (by decide +kernel) (pa_cons (pv 3) pa_nil))) pa_nil)) (by rfl))
      (pss_cons (ps_if (pt_cmpR op_ge (pv 4) (pe_op op_pow pe_int pe_int) (nomark _))
        (pss_cons (ps_set (i := 4) nd rfl (.inl rfl) (pe_op op_modN (pe_callTy call_int1 (by rfl) T.int (by decide +kernel) (pa_cons (pv 4) pa_nil)) (pe_op op_pow pe_int pe_int)))
        (pss_cons (ps_for PassesOwn.never rfl (pi_range1 rfl T.range (pa_cons (pe_op op_modN (pv 5) pe_int) pa_nil)) (pg_name (i := 6) nd rfl (.inl rfl)) (pss_one (ps_set (i := 4) nd rfl (.inl rfl) (pe_op op_fdivN (pv 4) pe_int))))
        (pss_one (ps_ret (pe_op op_modN (pe_op op_modN (pe_callTy call_int1 (by rfl) T.int (by decide +kernel) (pa_cons (pv 4) pa_nil)) pe_int) (pv 2)))))) pss_nil)
      (pss_cons (ps_set (i := 7) nd rfl (.inl rfl) (pe_op op_add (pe_op op_mul (pe_op op_add (pe_op op_add (pe_op op_modN (pe_callTy call_int1 (by rfl) T.int (by decide +kernel) (pa_cons (pe_op op_add (pv 4) (pe_op op_mul pe_int (pv 5))) pa_nil)) pe_int) (pe_op op_mul pe_int (pv 1))) pe_int) pe_int)
          (pe_op op_modN (pe_callTy call_int1 (by rfl) T.int (by decide +kernel) (pa_cons (pe_op op_fdivN (pv 4) pe_int) pa_nil)) pe_int)))
      (pss_one (ps_ret (pe_op op_modN (pe_callTy call_int1 (by rfl) T.int (by decide +kernel) (pa_cons (pe_op op_modN (pe_op op_mul (pe_op op_modN (pv 7) pe_int) pe_int) pe_int) pa_nil)) (pv 2))))))), ?_⟩
    have fin : ∀ (x : Int) H', Same H H' → Q (.int (x.fmod m)) H' := fun x H' s => k H' _ s (fmod_rng (by omega)).1 (fmod_rng (by omega)).2
    refine ⟨fun σ' H' => ∃ (p : Addr) (rs : List Int), σ' = [some (.ref a), some (.int n), some (.int m), some (.ref p), none, none, none, none] ∧ Same H H' ∧ H' p = some (.lst (rs.map V.int)) ∧ rs ≠ [] ∧ rs.length ≤ 63, ?_, ?_⟩
    · refine ⟨_, rfl, ?_⟩
      refine rd_l0 fun p1 H1 np1 s1 h1 => ?_
      refine ⟨.list (ns.map PyData.int), .list [], .lst (s1.seq hS) (dp_ints ns), .lst (SqL.of h1) .nil, shaped_ints ns, shaped_ints [], _, rfl, ?_⟩
      rw [eqv_empty]
      cases hns : ns with
      | nil =>
        refine iteF ?_
        refine rd_l1 fun p2 H2 np2 s2 h2 => ?_
        exact ⟨p2, [7], rfl, s1.trans s2, h2, by simp, by decide⟩
      | cons n0' ns' =>
        refine iteT ?_
        refine ⟨_, rfl, _, rfl, a, ns.map V.int, rfl, s1.seq hS, fun p2 np2 => ?_⟩
        have s2 := same_upd (o := HO.lst (cutV (ns.map V.int) none (some 60))) np2
        refine ⟨p2, ns.take 60, rfl, s1.trans s2, ?_, ?_, ?_⟩
        · rw [upd_same]
          have := cut_take (ns.map V.int) 60
          rw [show ((60 : Nat) : Int) = 60 from rfl] at this
          rw [this, ← List.map_take]
        · rw [hns]; simp
        · rw [List.length_take]; omega
    · rintro σ' H1 ⟨p, rs, rfl, s1, hp, hne, hrl⟩
      have hpos : 0 < rs.length := List.length_pos_iff.mpr hne
      have hL : (rs.map V.int).length = rs.length := List.length_map _
      obtain ⟨f0, f1⟩ := fmod_rng (a := n) (b := (rs.length : Int)) (by omega)
      obtain ⟨j, hj⟩ := Int.eq_ofNat_of_zero_le f0
      have hjl : j < rs.length := by omega
      obtain ⟨cell, hat⟩ : ∃ cell : Int, atI (rs.map V.int) (n.fmod (rs.length : Int)) = some (.int cell) := ⟨rs[j], by
        rw [hj]
        refine atI_nat ?_
        rw [List.getElem?_map, List.getElem?_eq_getElem hjl]; rfl⟩
      refine ⟨_, rfl, _, rfl, _, rfl, p, _, rfl, .inl (SqL.of hp), ?_⟩
      rw [hL]
      refine ⟨_, _, rfl, rfl, by omega, p, _, _, _, rfl, rfl, SqL.of hp, hat, ?_⟩
      refine ⟨_, rfl, _, rfl, p, _, rfl, .inl (SqL.of hp), ?_⟩
      rw [hL]
      refine ⟨_, _, rfl, rfl, ⟨by omega, by omega⟩, _, _, rfl, ?_⟩
      refine ⟨_, rfl, _, _, rfl, rfl, ⟨by decide, by decide, by decide⟩, _, _, rfl, rfl, _, rfl, ?_⟩
      by_cases hc : (10 : Int) ^ (18 : Int).toNat ≤ cell
      · rw [decide_eq_true hc]
        refine iteT ?_
        refine ⟨_, rfl, .inl ⟨_, rfl, _, _, rfl, rfl, ⟨by decide, by decide, by decide⟩, _, _, rfl, rfl, (show ((97 : Int) ^ (40 : Int).toNat) ≠ 0 by decide +kernel), ?_⟩⟩
        obtain ⟨g0, g1⟩ := fmod_rng (a := n.fdiv (rs.length : Int)) (b := 40) (by decide)
        refine ⟨_, rfl, _, _, rfl, rfl, (show (40 : Int) ≠ 0 by decide), _, rfl, by omega, by omega, ?_⟩
        refine for_range (n := ((n.fdiv (rs.length : Int)).fmod 40).toNat) (fun _ σ' H' => H' = H1 ∧ ∃ (c : Int) (v6 : Option V), σ' = [some (.ref a), some (.int n), some (.int m), some (.ref p), some (.int c), some (.int (n.fdiv (rs.length : Int))), v6, none])
          ⟨rfl, _, none, rfl⟩ ?_ ?_
        · rintro i σ' H' hi ⟨rfl, c, v6, rfl⟩
          refine ⟨_, rfl, _, _, rfl, rfl, ⟨by decide, by decide⟩, ?_⟩
          exact ⟨rfl, _, _, rfl⟩
        · rintro σ' H' ⟨rfl, c, v6, rfl⟩
          refine ⟨_, rfl, .inl ⟨_, rfl, _, _, rfl, rfl, (show (97 : Int) ≠ 0 by decide), _, rfl, _, _, rfl, rfl, (show m ≠ 0 by omega), ?_⟩⟩
          exact fin _ _ s1
      · rw [decide_eq_false hc]
        refine iteF ?_
        refine ⟨_, rfl, _, rfl, _, _, rfl, rfl, .inl ⟨by decide, by decide⟩, _, _, rfl, rfl, .inl ⟨_, rfl, _, _, rfl, rfl, (show (1000003 : Int) ≠ 0 by decide), _, rfl, _, _, rfl, rfl, .inl ⟨by decide, by decide⟩, _, _, rfl, rfl, _, _, rfl, rfl, _, _, rfl, rfl, .inr ⟨by decide, by decide⟩, ?_⟩⟩
        refine ⟨_, rfl, _, _, rfl, rfl, ⟨by decide, by decide⟩, .inl ⟨_, rfl, _, _, rfl, rfl, (show (999983 : Int) ≠ 0 by decide), _, _, rfl, rfl, ?_⟩⟩
        refine ⟨_, rfl, _, _, rfl, rfl, (show (2147483647 : Int) ≠ 0 by decide), _, _, rfl, rfl, .inr ⟨by decide, by decide⟩, _, _, rfl, rfl, (show (4294967291 : Int) ≠ 0 by decide), .inl ⟨_, rfl, _, rfl, _, _, rfl, rfl, (show m ≠ 0 by omega), ?_⟩⟩
        exact fin _ _ s1
end
end K3
namespace K3
open PySem PySem.Spec PyProof.Rows L2
theorem filter_snoc {α : Type} (P : α → Bool) (l : List α) (e : α) : (l ++ [e]).filter P = l.filter P ++ (if P e then [e] else []) := by
  rw [List.filter_append]
  cases h : P e <;> simp [h]
/-- the entry that is read from -/
def readE (ks : KT) (r : List E) : Option E := if okRow ks r then (r.filter (canRead (kd ks))).getLast? else none
section
variable {P : Program} {w : World} {K : PySem.W.Frag} {mg : Str → Option Value} {base : Heap} {C : Addr}
/-! ### read_entry -/
def spREnt (ks : KT) : Sp := fun vs H Q _ => ∃ (a : Addr) (v : V) (r : List E) (e : E), vs = [.ref a, v] ∧ KdAt H a ks ∧ EnsAt H v r ∧ readE ks r = some e ∧ ∀ v' H', Same H H' → EnAt H' v' e → Q v' H'
abbrev nREnt : List Str := ["kinds", "entries", "entry"]
theorem scREnt : FnScope nREnt ["kinds", "entries"] (defScope sREnt) := ⟨rfl, rfl, rfl, by decide +kernel, rfl, by decide +kernel, by decide +kernel⟩
theorem ok_rent {ks : KT} {f fC : Addr} {fd fdC : FuncData} (F : Fun K "read_entry" "read_entry" sREnt f fd) (DC : Dfn P w K mg base "can_be_read" 1 ["kinds", "entry"] (spCan ks) fC fdC) : FnOk P w K mg base CX0 2 f fd ["kinds", "entries"] (spREnt ks) := by
  refine F.ok scREnt (fun vs H Q E h => ?_) (fun cdv A outer s H vs Q E hr h => ?_)
  · obtain ⟨a, v, r, e, rfl, _⟩ := h
    rfl
  · obtain ⟨a, v, r, e0, rfl, hkd, ⟨A1, xs, rfl, hA, hall⟩, hre, k⟩ := h
    have nd := scREnt.nd
    have hok : okRow ks r = true := by
      cases h : okRow ks r with
      | true => rfl
      | false => unfold readE at hre; rw [h] at hre; cases hre
    unfold readE at hre
    rw [if_pos hok] at hre
    have rok := okRow.row hok
    refine ⟨_, pss_one (ps_ret (pe_ix (ixL K) (pe_lc (own := [("entry", 2)]) (g := gName 2) (by rfl) nd (pi_tup (pv 1)) (blkOk_by (N := nREnt) (sc := defScope sREnt) (by decide +kernel))
          (fun _ _ _ _ _ => pg_name (i := 2) nd rfl (.inl rfl)) (fun _ _ _ _ _ => pts_one (pt_val (pcl DC hr (pa_cons (pv 0) (pa_cons (pv 2) pa_nil))))) (fun _ _ _ _ _ => pv 2)) (pe_un un_neg pe_int) (fun _ _ => rfl))), ?_⟩
    refine ⟨_, rfl, A1, rfl, ⟨_, SqT.of hA⟩, fun D nD => lc_tup (K := K) (xs := xs) (fun j H' => Same H H' ∧ ∃ acc, H' D = some (.lst acc) ∧ Al (EnAt H') acc ((r.take j).filter (canRead (kd ks))))
      ⟨same_upd nD, [], upd_same, Al.nil⟩ (fun j H' _ hh => SqT.of (hh.1 _ _ hA)) ?_ ?_⟩
    · rintro j y H' hj ⟨s1, acc, hD, hacc⟩
      obtain ⟨e, hej, b', rfl, hb'⟩ := hall.at hj
      have hjl : j < r.length := (List.getElem?_eq_some_iff.mp hej).1
      refine ⟨rfl, ?_⟩
      refine ⟨_, rfl, _, rfl, a, _, e, rfl, hkd.same s1, ⟨b', rfl, s1 _ _ hb'⟩, rok.kn e (List.mem_of_getElem? hej), _, rfl, ?_⟩
      have hsn : (r.take (j + 1)).filter (canRead (kd ks)) = (r.take j).filter (canRead (kd ks)) ++ (if canRead (kd ks) e then [e] else []) := by
        rw [take_succ_at hej, filter_snoc]
      have hal : acc.length ≤ j := by
        rw [hacc.1]
        refine Nat.le_trans (List.length_filter_le _ _) ?_
        rw [List.length_take]; omega
      have := rok.sz
      cases hc : canRead (kd ks) e with
      | true =>
        refine iteT ⟨_, rfl, acc, hD, szl (by omega), s1.mut nD, acc ++ [.ref b'], upd_same, ?_⟩
        have tp : Tups H' (upd H' D (.lst (acc ++ [V.ref b']))) := tups_lst hD
        rw [hsn, hc, if_pos rfl]
        exact Al.snoc (hacc.mono fun _ _ z => EnAt.mono tp z) ⟨b', rfl, tp _ _ (s1 _ _ hb')⟩
      | false =>
        refine iteF ⟨s1, acc, hD, ?_⟩
        rw [hsn, hc, if_neg Bool.false_ne_true, List.append_nil]
        exact hacc
    rintro H1 ⟨s1, acc, hD, hacc⟩
    rw [hall.1, List.take_length] at hacc
    obtain ⟨es, e, hl⟩ : ∃ es e, r.filter (canRead (kd ks)) = es ++ [e] := by
      rcases List.eq_nil_or_concat (r.filter (canRead (kd ks))) with h | ⟨es, e, h⟩
      · rw [h] at hre; cases hre
      · exact ⟨es, e, by rw [h, List.concat_eq_append]⟩
    obtain ⟨zs, y, rfl, _, hy⟩ := hacc.split hl
    rw [hl, gl_snoc] at hre
    cases hre
    exact ⟨_, rfl, D, _, _, _, rfl, rfl, SqL.of hD, atI_last zs y, k _ _ s1 hy⟩
end
end K3
namespace K3
open PySem PySem.Spec PyProof.Rows L2
/-! ### xs[i] += n -/
/-- what stands at a place of a list -/
def rGetL (K : PySem.W.Frag) : V → V → Hp → VK → Prop := fun x y H Q => ∃ p xs i v, x = .ref p ∧ y = .int i ∧ SqL K H p xs ∧ 0 ≤ i ∧ atI xs i = some v ∧ Q v H
theorem get_list {X : Cx} (K : PySem.W.Frag) (h : X.K = K := by rfl) : PGet X (rGetL K) := by
  subst h
  intro pins s σ H x y v u Q I rx ry h
  obtain ⟨p, xs, i, z, rfl, rfl, hq, h0, he, q⟩ := h
  cases rx
  obtain ⟨t, rfl⟩ := ry
  obtain ⟨its, r, pl, hz⟩ := I.list hq
  obtain ⟨j, h1, h2, h3, h4, h5⟩ := atI_get he
  obtain ⟨w, ew, rw'⟩ := r.get h2
  have hl := r.length
  have hn := line63
  have hj : i.toNat = j := by
    rw [seqIndex_of h0 h5] at h1
    exact Option.some.inj h1
  exact wpAny_getItem_list (x := w) pl.isList h0 (by omega) (by rw [hj]; simpa using ew) ⟨z, H, I, rw', q⟩
section
variable {P : Program} {w : World} {K : PySem.W.Frag} {mg : Str → Option Value} {base : Heap} {C : Addr}
/-- a Played -/
def plf (a b c : Addr) : List (Str × V) := [("held", .ref a), ("reads", .ref b), ("ends", .ref c)]
structure TxtL (K : PySem.W.Frag) (mg : Str → Option Value) (C : Addr) : Prop where
  cl : Cls K C
  nh : NoAttr K C "held"
  nr : NoAttr K C "reads"
  ne : NoAttr K C "ends"
  mgC : mg "Played" = some (.ref C)
theorem pl2 (a b : Addr) : putF "reads" (.ref b) (putF "held" (.ref a) []) = [(("held" : Str), V.ref a), (("reads" : Str), V.ref b)] := by
  rw [show putF "held" (.ref a) [] = [(("held" : Str), V.ref a)] from rfl, putF_ne (by decide +kernel)]; rfl
theorem pl3 (a b c : Addr) : putF "ends" (.ref c) (putF "reads" (.ref b) (putF "held" (.ref a) [])) = plf a b c := by
  rw [pl2, putF_ne (by decide +kernel), putF_ne (by decide +kernel)]; rfl
/-! ### Played.__init__ -/
def spPlInit (K : PySem.W.Frag) (C : Addr) : Sp := fun vs H Q _ => ∃ (p dx a b c : Addr) (xs ys zs : List V), vs = [.ref p, .ref a, .ref b, .ref c] ∧ H p = some (.ins C dx []) ∧ H a = some (.lst xs) ∧ H b = some (.lst ys) ∧ H c = some (.lst zs) ∧
  ∀ H' a' b' c', But p H H' → H' p = some (.ins C dx (plf a' b' c')) → H' a' = some (.lst xs) → H' b' = some (.lst ys) → H' c' = some (.lst zs) → Q .non H'
abbrev nPlInit : List Str := ["self", "held", "reads", "ends"]
theorem scPlInit : FnScope nPlInit ["self", "held", "reads", "ends"] (defScope sPlInit) := ⟨rfl, rfl, rfl, by decide +kernel, rfl, by decide +kernel, by decide +kernel⟩
theorem ok_plInit {f : Addr} {fd : FuncData} (F : Fun K "__init__" "Played.__init__" sPlInit f fd) (T : Txt K mg) (TC : TxtL K mg C) : FnOk P w K mg base CX0 1 f fd ["self", "held", "reads", "ends"] (spPlInit K C) := by
  refine F.ok scPlInit (fun vs H Q E h => ?_) (fun cdv A outer s H vs Q E hr h => ?_)
  · obtain ⟨p, dx, a, b, c, xs, ys, zs, rfl, _⟩ := h
    rfl
  · obtain ⟨p, dx, a, b, c, xs, ys, zs, rfl, hp, ha, hb, hc, k⟩ := h
    have nd := scPlInit.nd
    refine ⟨_, pss_cons (ps_fld (pv 0) (pe_callTy call_list_of (by rfl) T.list (by decide +kernel) (pa_cons (pv 1) pa_nil)) rfl)
      (pss_cons (ps_fld (pv 0) (pe_callTy call_list_of (by rfl) T.list (by decide +kernel) (pa_cons (pv 2) pa_nil)) rfl)
      (pss_one (ps_fld (pv 0) (pe_callTy call_list_of (by rfl) T.list (by decide +kernel) (pa_cons (pv 3) pa_nil)) rfl))), ?_⟩
    have npa : ∀ {H' : Hp} {q : Addr} {o : HO}, H' q = none → H' p = some o → p ≠ q := fun h1 h2 z => by rw [z, h1] at h2; cases h2
    refine ⟨_, rfl, a, xs, rfl, .inl (SqL.of ha), fun l1 n1 => ?_⟩
    have p1 := npa n1 hp
    refine ⟨_, rfl, p, C, dx, [], rfl, (by rw [upd_ne p1]; exact hp), TC.cl, TC.nh, (by show 0 < 1000; decide), ?_⟩
    have nb : b ≠ p := ne_of hb hp (by intro z; cases z)
    have nc : c ≠ p := ne_of hc hp (by intro z; cases z)
    have nb1 : b ≠ l1 := fun z => by rw [z, n1] at hb; cases hb
    have nc1 : c ≠ l1 := fun z => by rw [z, n1] at hc; cases hc
    refine ⟨_, rfl, b, ys, rfl, .inl (SqL.of (by rw [upd_ne nb, upd_ne nb1]; exact hb)), fun l2 n2 => ?_⟩
    have p2 : p ≠ l2 := fun z => by rw [← z, upd_same] at n2; cases n2
    have n2' : upd H l1 (.lst xs) l2 = none := by rw [upd_ne p2.symm] at n2; exact n2
    refine ⟨_, rfl, p, C, dx, _, rfl, (by rw [upd_ne p2]; exact upd_same), TC.cl, TC.nr, (by show 1 < 1000; decide), ?_⟩
    have l12 : l1 ≠ l2 := fun z => by rw [← z, upd_same] at n2'; cases n2'
    have n2'' : H l2 = none := by rw [upd_ne l12.symm] at n2'; exact n2'
    have nc2 : c ≠ l2 := fun z => by rw [z, n2''] at hc; cases hc
    refine ⟨_, rfl, c, zs, rfl, .inl (SqL.of (by rw [upd_ne nc, upd_ne nc2, upd_ne nc, upd_ne nc1]; exact hc)), fun l3 n3 => ?_⟩
    have p3 : p ≠ l3 := fun z => by rw [← z, upd_same] at n3; cases n3
    have n3' : upd (upd (upd H l1 (.lst xs)) p (.ins C dx (putF "held" (.ref l1) []))) l2 (.lst ys) l3 = none := by rw [upd_ne p3.symm] at n3; exact n3
    have l23 : l2 ≠ l3 := fun z => by rw [← z, upd_same] at n3'; cases n3'
    have n3'' : upd H l1 (.lst xs) l3 = none := by rw [upd_ne l23.symm, upd_ne p3.symm] at n3'; exact n3'
    have l13 : l1 ≠ l3 := fun z => by rw [← z, upd_same] at n3''; cases n3''
    have n3h : H l3 = none := by rw [upd_ne l13.symm] at n3''; exact n3''
    refine ⟨_, rfl, p, C, dx, _, rfl, (by rw [upd_ne p3]; exact upd_same), TC.cl, TC.ne, (by rw [pl2]; show 2 < 1000; decide), ?_⟩
    rw [pl3]
    refine k _ l1 l2 l3 (fun q o n e => ?_) upd_same ?_ ?_ ?_
    · have q1 : q ≠ l1 := fun z => by rw [z, n1] at e; cases e
      have q2 : q ≠ l2 := fun z => by rw [z, n2''] at e; cases e
      have q3 : q ≠ l3 := fun z => by rw [z, n3h] at e; cases e
      rw [upd_ne n, upd_ne q3, upd_ne n, upd_ne q2, upd_ne n, upd_ne q1]; exact e
    · rw [upd_ne p1.symm, upd_ne l13, upd_ne p1.symm, upd_ne l12, upd_ne p1.symm, upd_same]
    · rw [upd_ne p2.symm, upd_ne l23, upd_ne p2.symm, upd_same]
    · rw [upd_ne p3.symm, upd_same]
end
end K3
namespace K3
open PySem PySem.Spec PyProof.Rows L2
theorem dec_int (i j : Int) : decide (V.int i = V.int j) = decide (i = j) := by
  by_cases h : i = j
  · rw [decide_eq_true h, decide_eq_true (congrArg V.int h)]
  · rw [decide_eq_false h, decide_eq_false (fun z => h (V.int.inj z))]
/-- an instruction of the pipe -/
structure IsIns (ti : PI0) (i : Ins) : Prop where
  kn : ∃ ki, find ti.ks i.kind = some ki ∧ ki.srcs = i.srcs.length
  goal : -1 ≤ i.goal ∧ i.goal < ti.regs
  srcs : ∀ s ∈ i.srcs, 0 ≤ s ∧ s < ti.regs
  len : i.srcs.length ≤ 1000
def okIns (ti : PI0) (i : Ins) : Bool := (match find ti.ks i.kind with
    | some ki => decide (ki.srcs = i.srcs.length)
    | none => false) && decide (-1 ≤ i.goal ∧ i.goal < ti.regs) && (i.srcs.all fun s => decide (0 ≤ s ∧ s < ti.regs)) && decide (i.srcs.length ≤ 1000)
theorem okIns.is {ti : PI0} {i : Ins} (h : okIns ti i = true) : IsIns ti i := by
  unfold okIns at h
  simp only [Bool.and_eq_true, List.all_eq_true, decide_eq_true_eq] at h
  obtain ⟨⟨⟨h1, h2⟩, h3⟩, h4⟩ := h
  refine ⟨?_, h2, h3, h4⟩
  cases hf : find ti.ks i.kind with
  | none => rw [hf] at h1; cases h1
  | some ki => rw [hf] at h1; exact ⟨ki, rfl, of_decide_eq_true h1⟩
section
variable {P : Program} {w : World} {K : PySem.W.Frag} {mg : Str → Option Value} {base : Heap} {C : Addr}
/-! ### Pipe.is_instruction -/
def spIsIns (C : Addr) (ti : PI0) : Sp := fun vs H Q _ => ∃ (p kdA c : Addr) (v : V) (i : Ins), vs = [.ref p, v] ∧ PipeAt C H p kdA c ti ∧ KdAt H kdA ti.ks ∧ InAt H v i ∧ IsIns ti i ∧ ∀ H', Same H H' → Q (.bl true) H'
abbrev nIsIns : List Str := ["self", "thing", "kind", "goal", "sources", "source"]
theorem scIsIns : FnScope nIsIns ["self", "thing"] (defScope sIsIns) := ⟨rfl, rfl, rfl, by decide +kernel, rfl, by decide +kernel, by decide +kernel⟩
theorem ok_isIns {ti : PI0} {f fN : Addr} {fd fdN : FuncData} (F : Fun K "is_instruction" "Pipe.is_instruction" sIsIns f fd) (T : Txt K mg) (TC : TxtC K mg C) (DN : Dfn P w K mg base "is_number" 1 ["thing"] spNum fN fdN) : FnOk P w K mg base CX0 2 f fd ["self", "thing"] (spIsIns C ti) := by
  refine F.ok scIsIns (fun vs H Q E h => ?_) (fun cdv A outer s H vs Q E hr h => ?_)
  · obtain ⟨p, kdA, c, v, i, rfl, _⟩ := h
    rfl
  · obtain ⟨p, kdA, c, v, i, rfl, ⟨dx, hp⟩, ⟨kvs, hk, hkv⟩, ⟨a, b, rfl, ha, hb⟩, iok, k⟩ := h
    have hu := hu_of hr
    have nd := scIsIns.nd
    refine ⟨_, pss_cons (ps_if (PW.pt (pw_or (pt_not (pt_val (pe_callB call_isi (by rfl) T.isinst (by decide +kernel) (pa_cons (pv 1) (pa_cons (pe_bltn (v := .ty "tuple") (by rfl) T.tuple (by decide +kernel) rfl) pa_nil)))))
        (pw_or1 (pt_cmpR op_ne (pe_callB call_len_seq (by rfl) T.len (by decide +kernel) (pa_cons (pv 1) pa_nil)) pe_int (nomark _))))) (pss_one (ps_ret pe_bl)) pss_nil)
      (pss_cons (ps_asg (pv 1) (pg_tup (by rfl) (pgs_cons (pg_name (i := 2) nd rfl (.inl rfl)) (pgs_cons (pg_name (i := 3) nd rfl (.inl rfl)) (pgs_cons (pg_name (i := 4) nd rfl (.inl rfl)) pgs_nil)))))
      (pss_cons (ps_if (PW.pt (pw_or (pt_not (pt_val (pe_callB call_isi (by rfl) T.isinst (by decide +kernel) (pa_cons (pv 2) (pa_cons (pe_bltn (v := .ty "str") (by rfl) T.str (by decide +kernel) rfl) pa_nil)))))
        (pw_or (pt_cmp (pc_dnotin hu (pv 2) (pfd K (pv 0)))) (pw_or1 (pt_not (pt_val (pe_callB call_isi (by rfl) T.isinst (by decide +kernel) (pa_cons (pv 4) (pa_cons (pe_bltn (v := .ty "tuple") (by rfl) T.tuple (by decide +kernel) rfl) pa_nil))))))))) (pss_one (ps_ret pe_bl)) pss_nil)
      (pss_cons (ps_if (PW.pt (pw_or (pt_not (pt_val (pcl DN hr (pa_cons (pv 3) pa_nil)))) (pw_or (pt_not (pt_chain op_le op_lt (pe_un un_neg pe_int) (pv 3) (pfd K (pv 0))))
          (pw_or1 (pt_cmpR op_ne (pe_callB call_len_seq (by rfl) T.len (by decide +kernel) (pa_cons (pv 4) pa_nil)) (pe_ix ix_tup (pe_dget hu (pfd K (pv 0)) (pv 2) (fun _ _ => rfl)) pe_int (fun _ _ => rfl)) (nomark _)))))) (pss_one (ps_ret pe_bl)) pss_nil)
      (pss_one (ps_ret (pe_callB (cr_all rfl) (by rfl) T.all (by decide +kernel) (pa_cons
        (pe_lc (own := [("source", 5)]) (g := gName 5) (by rfl) nd (pi_tup (pv 4)) (blkOk_by (N := nIsIns) (sc := defScope sIsIns) (by decide +kernel))
          (fun _ _ _ _ _ => pg_name (i := 5) nd rfl (.inl rfl)) (fun _ _ _ _ _ => pts_nil)
          (fun _ _ _ _ _ => pe_and (pcl DN hr (pa_cons (pv 5) pa_nil)) (pe_one (pe_chain op_le op_lt pe_int (pv 5) (pfd K (pv 0)))))) pa_nil))))))), ?_⟩
    obtain ⟨ki, hki, hks⟩ := iok.kn
    obtain ⟨tk, htk, hti⟩ := hkv.get hki
    refine ⟨_, rfl, .ref a, .ty "tuple", .type "tuple", .type "tuple", true, rfl, .ty "tuple", .base (.tup ha), kit_ty (by decide +kernel), true, rfl, ?_⟩
    refine iteF ?_
    refine ⟨_, rfl, a, _, rfl, .inr (SqT.of ha), rfl, _, rfl, ?_⟩
    refine iteF ?_
    refine ⟨_, rfl, a, _, rfl, SqT.of ha, rfl, _, _, rfl, _, _, rfl, _, _, rfl, rfl, ?_⟩
    refine ⟨_, rfl, .str i.kind, .ty "str", .type "str", .type "str", true, rfl, .ty "str", .base (.str i.kind), kit_ty (by decide +kernel), true, rfl, ?_⟩
    refine iteF ?_
    have dg : DGet H kdA (.str i.kind) (some (.ref tk)) := by
      rw [← htk]; exact .inl ⟨kvs, Sum.inr i.kind, hk, rfl, rfl⟩
    refine ⟨_, rfl, _, rfl, p, C, dx, _, _, rfl, hp, TC.cl, TC.nk, pfl_k, kdA, _, rfl, dg, false, rfl, ?_⟩
    refine iteF ?_
    refine ⟨_, rfl, .ref b, .ty "tuple", .type "tuple", .type "tuple", true, rfl, .ty "tuple", .base (.tup hb), kit_ty (by decide +kernel), true, rfl, ?_⟩
    refine iteF ?_
    refine ⟨_, rfl, i.goal, rfl, true, rfl, ?_⟩
    refine iteF ?_
    refine ⟨_, rfl, _, rfl, _, _, rfl, rfl, _, rfl, ?_⟩
    rw [show decide ((-1 : Int) ≤ i.goal) = true from decide_eq_true iok.goal.1]
    refine iteT ?_
    refine ⟨_, rfl, p, C, dx, _, _, rfl, hp, TC.cl, TC.nr, pfl_r, _, _, rfl, rfl, _, rfl, ?_⟩
    rw [decide_eq_true iok.goal.2]
    refine iteF ?_
    refine ⟨_, rfl, b, _, rfl, .inr (SqT.of hb), _, rfl, p, C, dx, _, _, rfl, hp, TC.cl, TC.nk, pfl_k, _, rfl, kdA, .ref tk, rfl, dg, tk, _, 0, _, rfl, rfl, SqT.of hti, rfl, rfl, _, rfl, ?_⟩
    rw [List.length_map, dec_int, hks, decide_eq_true rfl]
    refine iteF ?_
    refine ⟨_, rfl, b, rfl, ⟨_, SqT.of hb⟩, fun D nD => lc_tup (K := K) (xs := i.srcs.map V.int) (fun j H'' => Same H H'' ∧ H'' D = some (.lst ((i.srcs.take j).map fun _ => V.bl true)))
        ⟨same_upd nD, upd_same⟩ (fun j H'' _ hh => SqT.of (hh.1 _ _ hb)) ?_ ?_⟩
    · rintro j y H'' hj2 ⟨s2, hD⟩
      obtain ⟨g, hs0, rfl⟩ := map_at hj2
      obtain ⟨g0, g1⟩ := iok.srcs g (List.mem_of_getElem? hs0)
      refine ⟨rfl, ?_⟩
      refine ⟨_, rfl, g, rfl, true, rfl, ?_⟩
      refine iteT ⟨_, rfl, _, _, rfl, rfl, _, rfl, ?_⟩
      rw [decide_eq_true g0]
      refine iteT ⟨_, rfl, p, C, dx, _, _, rfl, s2 _ _ hp, TC.cl, TC.nr, pfl_r, _, _, rfl, rfl, ?_⟩
      show ∃ _, _
      refine ⟨_, hD, ?_, s2.mut nD, ?_⟩
      · rw [List.length_map, List.length_take]
        have := iok.len
        exact szl (by omega)
      · rw [upd_same, map_take_succ hs0]
        show some (HO.lst (List.map (fun x => V.bl true) (List.take j i.srcs) ++ [V.bl (decide (g < ti.regs))])) = _
        rw [decide_eq_true g1]
    · rintro H2 ⟨s2, hD⟩
      rw [List.length_map, List.take_length] at hD
      refine ⟨D, i.srcs.map (fun _ => true), rfl, ?_, ?_⟩
      · rw [List.map_map]; exact SqL.of hD
      have : (i.srcs.map fun _ => true).all id = true := by simp
      rw [this]
      exact k H2 s2
end
end K3
namespace K3
open PySem PySem.Spec PyProof.Rows L2
/-- a program as a list -/
def ProgAt (H : Hp) (a : Addr) (is : List Ins) : Prop := ∃ xs, H a = some (.lst xs) ∧ Al (InAt H) xs is
theorem ProgAt.same {H H' : Hp} {a : Addr} {is : List Ins} (h : ProgAt H a is) (s : Same H H') : ProgAt H' a is := by
  obtain ⟨xs, h1, h2⟩ := h
  exact ⟨xs, s _ _ h1, h2.mono fun _ _ => InAt.mono s.tups⟩
theorem but_prog {P : Program} {w : World} {ks : KT} {H H' : Hp} {a c : Addr} {xs : List Kp} {is : List Ins} (hc : CacheAt P w ks H c xs) (b : But c H H') (h : ProgAt H a is) : ProgAt H' a is := by
  obtain ⟨ys, h1, h2⟩ := h
  exact ⟨ys, b _ _ (fun z => by rw [z, hc.at_] at h1; cases h1) h1, h2.mono fun _ _ => InAt.mono (but_tups hc b)⟩
section
variable {P : Program} {w : World} {K : PySem.W.Frag} {mg : Str → Option Value} {base : Heap} {C : Addr}
/-! ### check_program -/
def spChk (C : Addr) (ti : PI0) : Sp := fun vs H Q _ => ∃ (p kdA c a : Addr) (is : List Ins), vs = [.ref p, .ref a] ∧ PipeAt C H p kdA c ti ∧ KdAt H kdA ti.ks ∧ ProgAt H a is ∧ is.length ≤ 1000 ∧ (∀ i ∈ is, IsIns ti i) ∧ ∀ H', Same H H' → Q .non H'
abbrev nChk : List Str := ["pipe", "program", "thing"]
theorem scChk : FnScope nChk ["pipe", "program"] (defScope sCheckP) := ⟨rfl, rfl, rfl, by decide +kernel, rfl, by decide +kernel, by decide +kernel⟩
theorem ok_chk {ti : PI0} {f fI : Addr} {fd fdI : FuncData} (F : Fun K "check_program" "check_program" sCheckP f fd) (T : Txt K mg) (TC : TxtC K mg C) (DI : Dfm P w K mg base C "is_instruction" 2 ["self", "thing"] (spIsIns C ti) fI fdI) : FnOk P w K mg base CX0 3 f fd ["pipe", "program"] (spChk C ti) := by
  refine F.ok scChk (fun vs H Q E h => ?_) (fun cdv A outer s H vs Q E hr h => ?_)
  · obtain ⟨p, kdA, c, a, is, rfl, _⟩ := h
    rfl
  · obtain ⟨p, kdA, c, a, is, rfl, ⟨dx, hp⟩, hkd, ⟨xs, ha, hal⟩, hsz, hok, k⟩ := h
    have hu := hu_of hr
    have nd := scChk.nd
    refine ⟨_, pss_one (ps_if (PW.pt (pw_or (pt_not (pt_val (pe_callB call_isiT (by rfl) T.isinst (by decide +kernel) (pa_cons (pv 1) (pa_cons (ptup (pa_cons (pe_bltn (v := .ty "list") (by rfl) T.list (by decide +kernel) rfl) (pa_cons (pe_bltn (v := .ty "tuple") (by rfl) T.tuple (by decide +kernel) rfl) pa_nil))) pa_nil)))))
        (pw_or1 (pt_not (pt_val (pe_callB (cr_all rfl) (by rfl) T.all (by decide +kernel) (pa_cons
          (pe_lc (own := [("thing", 2)]) (g := gName 2) (by rfl) nd (pi_list (pv 1)) (blkOk_by (N := nChk) (sc := defScope sCheckP) (by decide +kernel))
            (fun _ _ _ _ _ => pg_name (i := 2) nd rfl (.inl rfl)) (fun _ _ _ _ _ => pts_nil)
            (fun _ _ _ _ _ => pe_meth (pv 0) TC.cl DI.meth DI.ok hr DI.b .nil pass0 (pa_cons (pv 2) pa_nil))) pa_nil)))))))
        (pss_one ps_never) pss_nil), ?_⟩
    refine ⟨_, rfl, ?_⟩
    refine rd_t2 fun t H1 s1 ht => ?_
    refine ⟨.ref a, t, _, .type "list", [.type "list", .type "tuple"], true, rfl, ht, .cons (.ty "list") (.cons (.ty "tuple") .nil), .base (.lst (s1 _ _ ha)), kitAny_cons (b := true) (kit_ty (by decide +kernel)) (fun z => nomatch z) (fun _ => rfl), true, rfl, ?_⟩
    refine iteF ?_
    refine ⟨_, rfl, a, rfl, ⟨_, SqL.of (s1 _ _ ha)⟩, fun D nD => lc_list (K := K) (xs := xs) (fun j H'' => Same H1 H'' ∧ H'' D = some (.lst ((is.take j).map fun _ => V.bl true)))
        ⟨same_upd nD, upd_same⟩ (fun j H'' _ hh => SqL.of (hh.1 _ _ (s1 _ _ ha))) ?_ ?_⟩
    · rintro j y H'' hj ⟨s2, hD⟩
      obtain ⟨i, hij, hy⟩ := hal.at hj
      have s12 := s1.trans s2
      refine ⟨rfl, ?_⟩
      refine ⟨_, rfl, p, dx, _, rfl, s12 _ _ hp, pfl_m (by decide +kernel) (by decide +kernel) (by decide +kernel) (by decide +kernel) (by decide +kernel), _, rfl, ?_⟩
      refine ⟨p, kdA, c, y, i, rfl, ⟨dx, s12 _ _ hp⟩, hkd.same s12, hy.mono s12.tups, hok i (List.mem_of_getElem? hij), fun H3 s3 => ?_⟩
      refine ⟨_, s3 _ _ hD, ?_, (s2.trans s3).mut nD, ?_⟩
      · rw [List.length_map, List.length_take]
        exact szl (by omega)
      · rw [upd_same, map_take_succ hij]
    · rintro H2 ⟨s2, hD⟩
      rw [hal.1, List.take_length] at hD
      refine ⟨D, is.map (fun _ => true), rfl, ?_, true, ?_, ?_⟩
      · rw [List.map_map]; exact SqL.of hD
      · have : (is.map fun _ => true).all id = true := by simp
        rw [this]
      exact iteF (k H2 (s1.trans s2))
end
end K3
namespace K3
open PySem PySem.Spec PyProof.Rows L2
/-! ### programs, played -/
/-- from which ones an instruction reads -/
def srcsF (ks : KT) (st : List (List E)) (l : List Int) : Option (List Int) := oks (fun s => (readE ks (rowAt st s)).bind fun e => e.2.2.head?) l
def playF (ti : PI0) : Nat → List (List E) → List Ins → Option (List Int × List (List Int) × List (List E))
  | _, st, [] => some ([], [], st)
  | at_, st, i :: is => match waitF ti i 9 st with
    | some (n, s) => match srcsF ti.ks s i.srcs, nextS ti s i [(at_ : Int)] with
      | some rs, some s' => match playF ti (at_ + 1) s' is with
        | some (hs, rss, z) => some ((n : Int) :: hs, rs :: rss, z)
        | none => none
      | _, _ => none
    | none => none
theorem playF_cons {ti : PI0} {at_ : Nat} {st : List (List E)} {i : Ins} {is : List Ins} {hs : List Int} {rss : List (List Int)} {z : List (List E)} (h : playF ti at_ st (i :: is) = some (hs, rss, z)) :
    ∃ n s rs s' hs' rss', waitF ti i 9 st = some (n, s) ∧ srcsF ti.ks s i.srcs = some rs ∧ nextS ti s i [(at_ : Int)] = some s' ∧ playF ti (at_ + 1) s' is = some (hs', rss', z) ∧ hs = (n : Int) :: hs' ∧ rss = rs :: rss' := by
  unfold playF at h
  cases h1 : waitF ti i 9 st with
  | none => rw [h1] at h; cases h
  | some q =>
    obtain ⟨n, s⟩ := q
    rw [h1] at h
    simp only [] at h
    cases h2 : srcsF ti.ks s i.srcs with
    | none => rw [h2] at h; cases h
    | some rs =>
      cases h3 : nextS ti s i [(at_ : Int)] with
      | none => rw [h2, h3] at h; cases h
      | some s' =>
        rw [h2, h3] at h
        simp only [] at h
        cases h4 : playF ti (at_ + 1) s' is with
        | none => rw [h4] at h; cases h
        | some q =>
          obtain ⟨hs', rss', z'⟩ := q
          rw [h4] at h
          cases h
          exact ⟨n, s, rs, s', hs', rss', rfl, h2, h3, h4, rfl, rfl⟩
def endsF (ks : KT) (z : List (List E)) : Option (List Int) := oks (fun r => (endedF ks 9 r).bind fun r' => (readE ks r').bind fun e => e.2.2.head?) z
def start3 (ti : PI0) : List (List E) := List.replicate ti.regs.toNat [("", 0, [-1])]
def playS (ti : PI0) (is : List Ins) : Option (List Int × List (List Int) × List Int) := match playF ti 0 (start3 ti) is with
  | some (hs, rss, z) => if okSt ti.ks z then (match endsF ti.ks z with
    | some es => some (hs, rss, es)
    | none => none) else none
  | none => none
theorem playS_some {ti : PI0} {is : List Ins} {hs : List Int} {rss : List (List Int)} {es : List Int} (h : playS ti is = some (hs, rss, es)) : ∃ z, playF ti 0 (start3 ti) is = some (hs, rss, z) ∧ okSt ti.ks z = true ∧ endsF ti.ks z = some es := by
  unfold playS at h
  cases h1 : playF ti 0 (start3 ti) is with
  | none => rw [h1] at h; cases h
  | some q =>
    obtain ⟨hs', rss', z⟩ := q
    rw [h1] at h
    simp only [] at h
    cases h2 : okSt ti.ks z with
    | false => rw [h2] at h; cases h
    | true =>
      rw [h2, if_pos rfl] at h
      cases h3 : endsF ti.ks z with
      | none => rw [h3] at h; cases h
      | some es' => rw [h3] at h; cases h; exact ⟨z, rfl, h2, h3⟩
/-- tuples of ints -/
def TiAt (H : Hp) (v : V) (l : List Int) : Prop := ∃ a, v = .ref a ∧ H a = some (.tup (l.map V.int))
theorem TiAt.mono {H H' : Hp} (t : Tups H H') {v : V} {l : List Int} (h : TiAt H v l) : TiAt H' v l := let ⟨a, h1, h2⟩ := h; ⟨a, h1, t _ _ h2⟩
/-- a Played at p -/
def PlayedAt (C : Addr) (H : Hp) (p : Addr) (hs : List Int) (rss : List (List Int)) (es : List Int) : Prop := ∃ dx a b c ys, H p = some (.ins C dx (plf a b c)) ∧ H a = some (.lst (hs.map V.int)) ∧ H b = some (.lst ys) ∧ Al (TiAt H) ys rss ∧ H c = some (.lst (es.map V.int))
theorem but_mut {c l : Addr} {H H' : Hp} {o : HO} (b : But c H H') (h : H l = none) : But c H (upd H' l o) := fun q x n e => by
  rw [upd_ne (ne_of_none e h)]; exact b q x n e
theorem head_some {l : List Int} {x : Int} (h : l.head? = some x) : ∃ l', l = x :: l' := by
  cases l with
  | nil => cases h
  | cons a l => cases h; exact ⟨l, rfl⟩
end K3
namespace K3
open PySem PySem.Spec PyProof.Rows L2
section
variable {P : Program} {w : World} {K : PySem.W.Frag} {mg : Str → Option Value} {base : Heap} {C CL : Addr}
def spPlayed (P : Program) (w : World) (C CL : Addr) (ti : PI0) : Sp := fun vs H Q _ => ∃ (p kdA c a : Addr) (is : List Ins) (xs : List Kp) (hs : List Int) (rss : List (List Int)) (es : List Int), vs = [.ref p, .ref a] ∧ PipeAt C H p kdA c ti ∧ KdAt H kdA ti.ks ∧ CacheAt P w ti.ks H c xs ∧ ProgAt H a is ∧ is.length ≤ 100 ∧ (∀ i ∈ is, IsIns ti i) ∧ 1 ≤ ti.regs ∧ ti.regs ≤ 4 ∧ xs.length ≤ 70000 ∧
  playS ti is = some (hs, rss, es) ∧ ∀ (r : Addr) H' xs', But c H H' → CacheAt P w ti.ks H' c xs' → xs'.length ≤ xs.length + 50 * is.length → PlayedAt CL H' r hs rss es → Q (.ref r) H'
abbrev nPl : List Str := ["pipe", "program", "standing", "held", "reads", "place", "instruction", "source", "ends", "entries"]
theorem scPl : FnScope nPl ["pipe", "program"] (defScope sPlayed) := ⟨rfl, rfl, rfl, by decide +kernel, rfl, by decide +kernel, by decide +kernel⟩
theorem ok_played {ti : PI0} {f fK fH fL fP fR fE fI : Addr} {fd fdK fdH fdL fdP fdR fdE fdI : FuncData} (F : Fun K "played" "played" sPlayed f fd) (T : Txt K mg) (TC : TxtC K mg C) (TL : TxtL K mg CL) (ko : KOk ti.ks)
    (DK : Dfn P w K mg base "check_program" 3 ["pipe", "program"] (spChk C ti) fK fdK)
    (DH : Dfn P w K mg base "is_held" 2 ["pipe", "standing", "instruction"] (spHeld C ti) fH fdH) (DL : Dfm P w K mg base C "later" 3 ["self", "standing"] (spLater P w C ti) fL fdL)
    (DP : Dfn P w K mg base "put_under_way" 1 ["standing", "instruction", "more"] (spPut ti.ks) fP fdP) (DR : Dfn P w K mg base "read_entry" 2 ["kinds", "entries"] (spREnt ti.ks) fR fdR)
    (DE : Dfn P w K mg base "ended" 3 ["kinds", "entries"] (spEnded ti.ks) fE fdE)
    (M : Mk K CL fI) (FI : FnOk P w K mg base CX0 1 fI fdI ["self", "held", "reads", "ends"] (spPlInit K CL)) (bI : Binds K fdI ["self", "held", "reads", "ends"] []) :
    FnOk P w K mg base CX0 4 f fd ["pipe", "program"] (spPlayed P w C CL ti) := by
  refine F.ok scPl (fun vs H Q E h => ?_) (fun cdv A outer s H vs Q E hr h => ?_)
  · obtain ⟨p, kdA, c, a, is, xs, hs, rss, es, rfl, _⟩ := h
    rfl
  · obtain ⟨p, kdA, c, a, is, xs, hs, rss, es, rfl, hpipe, hkd, hc, hprog, hsz, hok, r1, r4, hxs, hplay, k⟩ := h
    obtain ⟨z, hpl, okz, hends⟩ := playS_some hplay
    have nd := scPl.nd
    have hr1 : Room 1 _ := hr.mono (by decide)
    have hr2 : Room 2 _ := hr.mono (by decide)
    refine ⟨_, pss_cons (ps_expr (pcl DK hr (pa_cons (pv 0) (pa_cons (pv 1) pa_nil))))
      (pss_cons (ps_set (i := 2) nd rfl (.inr rfl) (pe_op (op_rep K) (ptup (pa_cons (ptup (pa_cons (ptup (pa_cons pe_str (pa_cons (pgl T.P) (pa_cons (pe_un un_neg pe_int) pa_nil)))) pa_nil)) pa_nil)) (pfd K (pv 0))))
      (pss_cons (ps_par (i := 3) (j := 4) (by rfl) nd rfl rfl (by decide) rfl rfl (pa_cons (plst pa_nil) (pa_cons (plst pa_nil) pa_nil)) (by rfl))
      (pss_cons (ps_for PassesOwn.never rfl (pi_enum (by rfl) T.enumerate (pa_cons (pv 1) pa_nil)) (pgT2 K 5 6 nd)
        (pss_cons (ps_expr (pe_bm PySem.F.plainAttrs_list PySem.F.slot_list_append PySem.F.type_list_append mt_append (pv 3) (pa_cons pe_int pa_nil)))
        (pss_cons (ps_while PassesOwn.never (pt_val (pcl DH hr2 (pa_cons (pv 0) (pa_cons (pv 2) (pa_cons (pv 6) pa_nil)))))
          (pss_cons (ps_set (i := 2) nd rfl (.inr rfl) (pe_meth (pv 0) TC.cl DL.meth DL.ok hr DL.b .nil pass0 (pa_cons (pv 2) pa_nil)))
          (pss_one (ps_augS (pv 3) (pv 5) (get_list K) pe_int ip_add set_list))))
        (pss_cons (ps_expr (pe_bm PySem.F.plainAttrs_list PySem.F.slot_list_append PySem.F.type_list_append mt_append (pv 4) (pa_cons
            (pe_callTy call_tuple_of (by rfl) T.tuple (by decide +kernel) (pa_cons
              (pe_lc (own := [("source", 7)]) (g := gName 7) (by rfl) nd (pi_tup (pe_ix (ixT K) (pv 6) pe_int (fun _ _ => rfl))) (blkOk_by (N := nPl) (sc := defScope sPlayed) (by decide +kernel))
                (fun _ _ _ _ _ => pg_name (i := 7) nd rfl (.inl rfl)) (fun _ _ _ _ _ => pts_nil)
                (fun _ _ _ _ _ => pe_ix (ixT K) (pcl DR hr2 (pa_cons (pfd K (pv 0)) (pa_cons (pe_ix (ixT K) (pv 2) (pv 7) (fun _ _ => rfl)) pa_nil))) pe_int (fun _ _ => rfl))) pa_nil)) pa_nil)))
        (pss_one (ps_set (i := 2) nd rfl (.inr rfl) (pe_meth (pv 0) TC.cl DL.meth DL.ok hr DL.b .nil pass0 (pa_cons (pcl DP hr1 (pa_cons (pv 2) (pa_cons (pv 6) (pa_cons (ptup (pa_cons (pv 5) pa_nil)) pa_nil)))) pa_nil))))))))
      (pss_cons (ps_setLc (i := 8) (own := [("entries", 9)]) (g := gName 9) (by rfl) nd rfl rfl (sw_true rfl rfl rfl (by decide +kernel)) (pi_tup (pv 2)) (blkOk_by (N := nPl) (sc := defScope sPlayed) (by decide +kernel))
          (fun _ _ _ _ _ => pg_name (i := 9) nd rfl (.inl rfl)) (fun _ _ _ _ _ => pts_nil)
          (fun _ _ _ _ _ => pe_ix (ixT K) (pcl DR hr2 (pa_cons (pfd K (pv 0)) (pa_cons (pcl DE hr (pa_cons (pfd K (pv 0)) (pa_cons (pv 9) pa_nil))) pa_nil))) pe_int (fun _ _ => rfl)))
      (pss_one (ps_ret (pe_make M FI hr2 (by rfl) TL.mgC bI .nil pass0 (pa_cons (pv 3) (pa_cons (pv 4) (pa_cons (pv 8) pa_nil)))))))))), ?_⟩
    obtain ⟨dx, hp⟩ := id hpipe
    refine ⟨_, rfl, _, rfl, p, kdA, c, a, is, rfl, hpipe, hkd, hprog, by omega, hok, fun H1 s1 => ?_⟩
    -- standing
    refine ⟨_, rfl, ?_⟩
    refine rd_t3 fun q1 H2 s2 e1 => rd_t1 fun q2 H3 s3 e2 => rd_t1 fun q3 H4 s4 e3 => ?_
    have s14 := s1.trans ((s2.trans s3).trans s4)
    refine ⟨_, rfl, p, C, dx, _, _, rfl, s14 _ _ hp, TC.cl, TC.nr, pfl_r, ?_⟩
    show rRep K (.ref q3) (.int ti.regs) H4 _
    unfold rRep
    refine ⟨q3, ti.regs, _, rfl, rfl, e3, (fun z => nomatch z), r1, by omega, (by show 1 ≤ 1000; decide), fun q4 H5 s5 e4 => ?_⟩
    rw [flat_rep] at e4
    have t1 : EnAt H5 (.ref q1) (("", 0, [-1]) : K3.E) := ⟨q1, rfl, s5 _ _ (s4 _ _ (s3 _ _ e1))⟩
    have t2 : EnsAt H5 (.ref q2) [(("", 0, [-1]) : K3.E)] := ⟨q2, _, rfl, s5 _ _ (s4 _ _ e2), Al.one t1⟩
    have hst0 : StAt H5 (.ref q4) (start3 ti) := ⟨q4, _, rfl, e4, al_rep t2 _⟩
    have s15 := s14.trans s5
    -- held, reads
    refine rd_l0 fun B1 H6 n1 s6 hB1 => ?_
    refine rd_l0 fun B2 H7 n2 s7 hB2 => ?_
    refine ⟨_, _, rfl, ?_⟩
    obtain ⟨ys, ha, hal⟩ := id hprog
    have s07 := (s15.trans s6).trans s7
    have nB1 : H B1 = none := s15.free n1
    have nB2 : H B2 = none := (s15.trans s6).free n2
    have l12 : B1 ≠ B2 := fun z => by rw [← z, hB1] at n2; cases n2
    have cB1 : c ≠ B1 := fun z => by rw [← z, hc.at_] at nB1; cases nB1
    have cB2 : c ≠ B2 := fun z => by rw [← z, hc.at_] at nB2; cases nB2
    let σ0 : V → Option V → Option V → L2.St := fun v' v5 v6 => [some (.ref p), some (.ref a), some v', some (.ref B1), some (.ref B2), v5, v6, none, none, none]
    refine ⟨_, rfl, a, ys, rfl, SqL.of (s07 _ _ ha), for_it (walk_enum (xs := ys)) (fun j σ' H' => ∃ v' v5 v6 xs' st zs hs' rss', σ' = σ0 v' v5 v6 ∧ But c H H' ∧ CacheAt P w ti.ks H' c xs' ∧ xs'.length ≤ xs.length + 50 * j ∧ StAt H' v' st ∧
        playF ti j st (is.drop j) = some (hs', rss', z) ∧ hs = hs.take j ++ hs' ∧ rss = rss.take j ++ rss' ∧ (hs.take j).length = j ∧ H' B1 = some (.lst ((hs.take j).map V.int)) ∧ H' B2 = some (.lst zs) ∧ Al (TiAt H') zs (rss.take j))
      ⟨.ref q4, none, none, xs, start3 ti, [], hs, rss, rfl, s07.but c, hc.same s07, by omega, hst0.mono (s6.trans s7).tups, by rw [List.drop_zero]; exact hpl, rfl, rfl, rfl, s7 _ _ hB1, hB2, Al.nil⟩
      (fun j σ' H' _ hh => by obtain ⟨v', v5, v6, xs', st, zs, hs', rss', _, bt, _⟩ := hh; exact SqL.of (bt _ _ (fun e => by rw [e, hc.at_] at ha; cases ha) ha)) ?_ ?_⟩
    · rintro j y σ' H' H'' hj ⟨v', v5, v6, xs', st, zs, hs', rss', rfl, bt, hc', hl', hst', hpF, eh, er, ehl, hH1, hH2, hAl⟩ ⟨Tt, x1, x2, rfl, nT, rfl, e1', e2'⟩
      cases e1'
      obtain ⟨ins, hij, hin⟩ := hal.at e2'
      have hjl : j < is.length := (List.getElem?_eq_some_iff.mp hij).1
      have edrop : is.drop j = ins :: is.drop (j + 1) := by
        rw [List.drop_eq_getElem_cons hjl]
        congr 1
        rw [List.getElem?_eq_getElem hjl] at hij
        exact Option.some.inj hij
      rw [edrop] at hpF
      obtain ⟨n, sN, rs, sX, hs1, rss1, hw, hsr, hnx, hrest, rfl, rfl⟩ := playF_cons hpF
      obtain ⟨okN, iokN, okP, _, rfl⟩ := nextS_some hnx
      have hn9 := waitF_le hw
      have sT := same_upd (o := HO.tup [V.int (j : Nat), x2]) nT
      refine ⟨Tt, _, rfl, SqT.of upd_same, rfl, _, _, rfl, _, _, rfl, rfl, ?_⟩
      have hj100 : j < 100 := by omega
      -- held.append(0)
      have g1 := sT _ _ hH1
      refine ⟨_, rfl, .inl ⟨rfl, _, SqL.of g1⟩, B1, _, _, rfl, rfl, g1, (by rw [List.length_map, ehl]; exact szl (by omega)), ?_⟩
      have b0 : But c H (upd H' Tt (.tup [V.int (j : Nat), x2])) := bt.trans (sT.but c)
      have cTt : c ≠ Tt := fun e => by rw [← e] at nT; rw [hc'.at_] at nT; cases nT
      have mutc : ∀ {H3 : Hp} {l : Addr} {o : HO} {xs3 : List Kp}, c ≠ l → (∃ us, H3 l = some (.lst us)) → CacheAt P w ti.ks H3 c xs3 → CacheAt P w ti.ks (upd H3 l o) c xs3 := by
        intro H3 l o xs3 ne ⟨us, hl⟩ h3
        have tp : Tups H3 (upd H3 l o) := fun b q e => by
          have : b ≠ l := fun e2 => by rw [e2, hl] at e; cases e
          rw [upd_ne this]; exact e
        exact ⟨by rw [upd_ne ne]; exact h3.at_, fun q hq => ⟨(h3.ok q hq).1.mono tp, (h3.ok q hq).2.mono tp⟩⟩
      have G1c : CacheAt P w ti.ks (upd H' Tt (.tup [V.int (j : Nat), x2])) c xs' := hc'.same sT
      refine ⟨fun m σ'' G => ∃ (d cnt : Nat) (s3 : List (List K3.E)) (v3 : V) (xs3 : List Kp), waitF ti ins m s3 = some (d, sN) ∧ cnt + d = n ∧ σ'' = σ0 v3 (some (.int (j : Nat))) (some x2) ∧ But c H G ∧ CacheAt P w ti.ks G c xs3 ∧ xs3.length ≤ xs.length + 50 * j + 4 * cnt ∧ StAt G v3 s3 ∧
          G B1 = some (.lst ((hs.take j).map V.int ++ [V.int (cnt : Nat)])) ∧ G B2 = some (.lst zs) ∧ Al (TiAt G) zs (rss.take j),
        ⟨9, n, 0, st, v', xs', hw, by omega, rfl, but_mut b0 nB1, mutc cB1 ⟨_, g1⟩ G1c, by omega, (hst'.mono sT.tups).mono (tups_lst g1), upd_same, by rw [upd_ne l12.symm]; exact sT _ _ hH2, hAl.mono fun _ _ q => TiAt.mono (tups_lst g1) (TiAt.mono sT.tups q)⟩, ?_⟩
      rintro m σ'' G ⟨d, cnt, s3, v3, xs3, hw3, hcd, rfl, b3, c3, l3, st3, gB1, gB2, gAl⟩
      have tp := but_tups hc b3
      have hin' := hin.mono tp
      have hkd' := but_kd hc b3 hkd
      obtain ⟨dx', hp'⟩ := but_pipe hc b3 hpipe
      have nometh : (pfl ti.regs kdA ti.ho ti.od c).lookup ("later" : Str) = none := pfl_m (by decide +kernel) (by decide +kernel) (by decide +kernel) (by decide +kernel) (by decide +kernel)
      cases m with
      | zero => cases hw3
      | succ m =>
      have hok3 : (okSt ti.ks s3 && okIn ti.ks s3.length ins) = true := by
        cases h : okSt ti.ks s3 && okIn ti.ks s3.length ins with
        | true => rfl
        | false => unfold waitF at hw3; rw [h] at hw3; cases hw3
      unfold waitF at hw3
      rw [if_pos hok3] at hw3
      rw [Bool.and_eq_true] at hok3
      have rows := okSt.rows hok3.1
      have lsz := okSt.len hok3.1
      have iok := okIn.ok hok3.2
      have hal1 : ((hs.take j).map V.int).length = j := by rw [List.length_map]; exact ehl
      refine ⟨_, rfl, _, rfl, _, rfl, p, kdA, c, _, _, _, ins, rfl, ⟨dx', hp'⟩, hkd', st3, hin', iok, rows, _, rfl, ?_⟩
      cases hh : heldS ti s3 ins with
      | true =>
        rw [hh, if_pos rfl] at hw3
        obtain ⟨⟨d', s'⟩, hw', e'⟩ := Option.map_eq_some_iff.mp hw3
        simp only [Prod.mk.injEq] at e'
        obtain ⟨rfl, rfl⟩ := e'
        refine iteT ⟨fun σ4 G4 => ∃ (v4 : V) (xs4 : List Kp), σ4 = σ0 v4 (some (.int (j : Nat))) (some x2) ∧ But c H G4 ∧ CacheAt P w ti.ks G4 c xs4 ∧ xs4.length ≤ xs.length + 50 * j + 4 * (cnt + 1) ∧ StAt G4 v4 (s3.map (agedS (kd ti.ks))) ∧
            G4 B1 = some (.lst ((hs.take j).map V.int ++ [V.int ((cnt + 1 : Nat) : Int)])) ∧ G4 B2 = some (.lst zs) ∧ Al (TiAt G4) zs (rss.take j), fun σ4 G4 hN => ?_, ?_⟩
        · obtain ⟨v4, xs4, rfl, b4, c4, l4, st4, e1, e2, e3⟩ := hN
          exact ⟨m, by omega, d', cnt + 1, _, v4, xs4, hw', by omega, rfl, b4, c4, l4, st4, e1, e2, e3⟩
        · refine ⟨_, rfl, p, dx', _, rfl, hp', nometh, _, rfl, p, kdA, c, _, _, xs3, rfl, ⟨dx', hp'⟩, hkd', c3, st3, rows, by omega, by omega, fun v4 G4 xs4 b4 c4 l4 st4 => ?_⟩
          have f1 := b4 _ _ cB1.symm gB1
          have f2 := b4 _ _ cB2.symm gB2
          refine ⟨_, rfl, _, rfl, B1, _, _, _, rfl, rfl, SqL.of f1, by omega, atI_nat (v := V.int (cnt : Nat)) (by rw [List.getElem?_append_right (by omega), hal1, Nat.sub_self]; rfl), _, _, rfl, rfl, B1, _, _, j, rfl, rfl, f1, Evl.ixN_nat (by rw [List.length_append, hal1]; exact Nat.lt_succ_self j), ?_⟩
          refine ⟨v4, xs4, rfl, but_mut (b3.trans b4) nB1, mutc cB1 ⟨_, f1⟩ c4, by omega, st4.mono (tups_lst f1), ?_, by rw [upd_ne l12.symm]; exact f2, gAl.mono fun _ _ q => TiAt.mono (tups_lst f1) (TiAt.mono (but_tups c3 b4) q)⟩
          rw [upd_same, List.set_append_right _ _ (by omega), hal1, Nat.sub_self]
          rfl
      | false =>
        rw [hh, if_neg Bool.false_ne_true] at hw3
        cases hw3
        refine iteF ?_
        obtain ⟨ai, bi, rfl, hai, hbi⟩ := id hin'
        obtain ⟨A1, zst, rfl, hA, hallst⟩ := id st3
        obtain ⟨hrl, hra⟩ := oks_at hsr
        refine ⟨_, rfl, .inl ⟨rfl, _, SqL.of gB2⟩, ?_⟩
        refine ⟨_, rfl, ai, _, 2, _, rfl, rfl, SqT.of hai, rfl, bi, rfl, ⟨_, SqT.of hbi⟩, fun D nD => lc_tup (K := K) (xs := ins.srcs.map V.int) (fun j2 G4 => Same G G4 ∧ G4 D = some (.lst ((rs.take j2).map V.int)))
          ⟨same_upd nD, upd_same⟩ (fun j2 G4 _ hh => SqT.of (hh.1 _ _ hbi)) ?_ ?_⟩
        · rintro j2 y2 G4 hj2 ⟨s4, hD⟩
          obtain ⟨g, hsg, rfl⟩ := map_at hj2
          obtain ⟨g0, g1'⟩ := iok.srcs g (List.mem_of_getElem? hsg)
          obtain ⟨b', zs', hat, hB', hal'⟩ := row_of hallst g0 g1'
          obtain ⟨x, hxj, hxe⟩ := hra j2 g hsg
          obtain ⟨e, hre, hhd⟩ := Option.bind_eq_some_iff.mp hxe
          obtain ⟨l', hl'⟩ := head_some hhd
          refine ⟨rfl, ?_⟩
          refine ⟨_, rfl, p, C, dx', _, _, rfl, s4 _ _ hp', TC.cl, TC.nk, pfl_k, _, rfl, _, rfl, A1, _, _, _, rfl, rfl, SqT.of (s4 _ _ hA), hat, kdA, _, _, e, rfl, hkd'.same s4, ⟨b', zs', rfl, s4 _ _ hB', hal'.mono fun _ _ => EnAt.mono s4.tups⟩, hre, fun v5 G5 s5 hv5 => ?_⟩
          obtain ⟨b5, rfl, hb5⟩ := hv5
          rw [hl'] at hb5
          refine ⟨b5, _, 2, _, rfl, rfl, SqT.of hb5, at2, _, s5 _ _ hD, ?_, (s4.trans s5).mut nD, ?_⟩
          · rw [List.length_map, List.length_take]
            have := iok.len
            exact szl (by omega)
          · rw [upd_same, map_take_succ hxj]
        · rintro G4 ⟨s4, hD⟩
          rw [List.length_map, ← hrl, List.take_length] at hD
          refine ⟨D, _, rfl, .inl ⟨SqL.of hD, fun l hl => ?_⟩⟩
          have s5 := same_upd (o := HO.tup (rs.map V.int)) hl
          have s45 := s4.trans s5
          have h2' := s45 _ _ gB2
          have hrt : (rss.take j).length = j := by
            have h1 := hAl.1
            rw [List.length_take] at ehl ⊢
            have h3 : rss.length = j + (rs :: rss1).length ∨ rss.length < j ∨ j ≤ rss.length := by omega
            have e2 := congrArg List.length er
            have e3 := congrArg List.length eh
            rw [List.length_append, List.length_take, List.length_cons] at e2 e3
            omega
          refine ⟨B2, zs, _, rfl, rfl, h2', (by rw [gAl.1, hrt]; exact szl (by omega)), ?_⟩
          -- standing = later(put_under_way(..))
          have t6 := tups_lst (o := HO.lst (zs ++ [V.ref l])) h2'
          have b6 : But c H (upd (upd G4 l (.tup (rs.map V.int))) B2 (.lst (zs ++ [V.ref l]))) := but_mut (b3.trans (s45.but c)) nB2
          have c6 := mutc (o := HO.lst (zs ++ [V.ref l])) cB2 ⟨_, h2'⟩ (c3.same s45)
          have st6 := (st3.mono s45.tups).mono t6
          have in6 := (hin'.mono s45.tups).mono t6
          obtain ⟨dx6, hp6⟩ := but_pipe hc b6 hpipe
          have kd6 := but_kd hc b6 hkd
          have f61 : (upd (upd G4 l (.tup (rs.map V.int))) B2 (.lst (zs ++ [V.ref l]))) B1 = some (.lst ((hs.take j).map V.int ++ [V.int (cnt : Nat)])) := by rw [upd_ne l12]; exact s45 _ _ gB1
          refine ⟨_, rfl, p, dx6, _, rfl, hp6, nometh, _, rfl, _, rfl, _, rfl, ?_⟩
          refine rd_t1 fun p3 H8 s8 h8 => ?_
          refine ⟨_, _, _, ins, p3, [(j : Nat)], rfl, st6.mono s8.tups, in6.mono s8.tups, h8, (by show 1 ≤ 10; decide), iok, by omega, rows, fun v4 H9 s9 st9 => ?_⟩
          have s89 := s8.trans s9
          have pl : (putS sN ins [((j : Nat) : Int)]).length = sN.length := putS_len iok.goal.2
          refine ⟨p, kdA, c, v4, _, xs3, rfl, ⟨dx6, s89 _ _ hp6⟩, kd6.same s89, c6.same s89, st9, okSt.rows okP, by rw [pl]; omega, by rw [pl]; omega, fun v5 HA xsA bA cA lA stA => ?_⟩
          rw [pl] at lA
          have f1A : HA B1 = some (.lst ((hs.take j).map V.int ++ [V.int (cnt : Nat)])) := bA _ _ cB1.symm (s89 _ _ f61)
          have f2A : HA B2 = some (.lst (zs ++ [V.ref l])) := bA _ _ cB2.symm (s89 _ _ upd_same)
          have tA : Tups G HA := fun b q e => but_tups (c6.same s89) bA _ _ (s89.tups _ _ (t6 _ _ (s45.tups _ _ e)))
          have ecn : cnt = n := by omega
          subst ecn
          have eh1 : hs.take (j + 1) = hs.take j ++ [(cnt : Int)] := by
            have : hs[j]? = some (cnt : Int) := by
              rw [eh, List.getElem?_append_right (by omega), ehl, Nat.sub_self]; rfl
            exact take_succ_at this
          have er1 : rss.take (j + 1) = rss.take j ++ [rs] := by
            have : rss[j]? = some rs := by
              rw [er, List.getElem?_append_right (by omega), hrt, Nat.sub_self]; rfl
            exact take_succ_at this
          refine ⟨v5, _, _, xsA, _, zs ++ [V.ref l], hs1, rss1, rfl, (b6.trans (s89.but c)).trans bA, cA, by omega, stA, hrest, ?_, ?_, ?_, ?_, f2A, ?_⟩
          · rw [eh1, List.append_assoc]; exact eh
          · rw [er1, List.append_assoc]; exact er
          · rw [eh1, List.length_append, ehl]; rfl
          · rw [f1A, eh1, List.map_append]; rfl
          · rw [er1]
            exact Al.snoc (gAl.mono fun _ _ q => TiAt.mono tA q) ⟨l, rfl, but_tups (c6.same s89) bA _ _ (s89.tups _ _ (t6 _ _ upd_same))⟩
    · rintro σ' H' ⟨v', v5, v6, xs', st, zs, hs', rss', rfl, bt, hc', hl', hst', hpF, eh, er, ehl, hH1, hH2, hAl⟩
      rw [hal.1, List.drop_length] at hpF
      cases hpF
      rw [hal.1] at hl' ehl hH1 hAl eh er
      rw [List.append_nil] at eh er
      rw [← eh] at hH1
      rw [← er] at hAl
      obtain ⟨dx', hp'⟩ := but_pipe hc bt hpipe
      have hkd' := but_kd hc bt hkd
      obtain ⟨A1, zst, rfl, hA, hallst⟩ := id hst'
      obtain ⟨hrl, hra⟩ := oks_at hends
      have lz := okSt.len okz
      refine ⟨_, rfl, A1, rfl, ⟨_, SqT.of hA⟩, fun D nD => lc_tup (K := K) (xs := zst) (fun j2 G4 => Same H' G4 ∧ G4 D = some (.lst ((es.take j2).map V.int)))
          ⟨same_upd nD, upd_same⟩ (fun j2 G4 _ hh => SqT.of (hh.1 _ _ hA)) ?_ ?_⟩
      · rintro j2 y2 G4 hj2 ⟨s4, hD⟩
        obtain ⟨r, hrj, hy⟩ := hallst.at hj2
        obtain ⟨x, hxj, hxe⟩ := hra j2 r hrj
        obtain ⟨r', hr1', hx2⟩ := Option.bind_eq_some_iff.mp hxe
        obtain ⟨e, hre, hhd⟩ := Option.bind_eq_some_iff.mp hx2
        obtain ⟨l', hl2⟩ := head_some hhd
        have hjl : j2 < z.length := (List.getElem?_eq_some_iff.mp hrj).1
        refine ⟨rfl, ?_⟩
        refine ⟨_, rfl, p, C, dx', _, _, rfl, s4 _ _ hp', TC.cl, TC.nk, pfl_k, _, rfl, p, C, dx', _, _, rfl, s4 _ _ hp', TC.cl, TC.nk, pfl_k, _, rfl, kdA, _, 9, r, r', rfl, hkd'.same s4, hy.mono s4.tups, hr1', fun v5 G5 s5 he => ?_⟩
        refine ⟨kdA, _, r', e, rfl, hkd'.same (s4.trans s5), he, hre, fun v6 G6 s6 hv6 => ?_⟩
        obtain ⟨b5, rfl, hb5⟩ := hv6
        rw [hl2] at hb5
        refine ⟨b5, _, 2, _, rfl, rfl, SqT.of hb5, at2, _, s6 _ _ (s5 _ _ hD), ?_, (s4.trans (s5.trans s6)).mut nD, ?_⟩
        · rw [List.length_map, List.length_take]
          exact szl (by omega)
        · rw [upd_same, map_take_succ hxj]
      · rintro G4 ⟨s4, hD⟩
        rw [hallst.1, ← hrl, List.take_length] at hD
        refine ⟨_, rfl, _, rfl, _, rfl, fun x dxx nx ndx nex => ?_⟩
        have s5 : Same G4 (upd (upd G4 dxx (.own x)) x (.ins CL dxx [])) := fun b o e => by
          rw [upd_ne (ne_of_none e nx), upd_ne (ne_of_none e ndx)]; exact e
        have s45 := s4.trans s5
        refine ⟨x, dxx, B1, B2, D, _, _, _, rfl, upd_same, s45 _ _ hH1, s45 _ _ hH2, s5 _ _ hD, fun HZ a' b' c' bZ hZ ha' hb' hc2 => ⟨rfl, ?_⟩⟩
        have sZ : Same G4 HZ := fun b o e => bZ b o (ne_of_none e nx) (s5 b o e)
        exact k x HZ xs' (bt.trans ((s4.trans sZ).but c)) (hc'.same (s4.trans sZ)) hl' ⟨dxx, a', b', c', zs, hZ, ha', hb', hAl.mono fun _ _ q => TiAt.mono (s4.trans sZ).tups q, hc2⟩
end
end K3
namespace K3
open PySem PySem.Spec PyProof.Rows L2
/-! ### the plain machine -/
def plainF : Nat → List Int → List Ins → List (List Int) × List Int
  | _, ends, [] => ([], ends)
  | at_, ends, i :: is =>
    let q := plainF (at_ + 1) (if 0 ≤ i.goal then ends.set i.goal.toNat (at_ : Int) else ends) is
    ((i.srcs.map fun s => ends[s.toNat]?.getD 0) :: q.1, q.2)
def plainS (ti : PI0) (is : List Ins) : List (List Int) × List Int := plainF 0 (List.replicate ti.regs.toNat (-1)) is
section
variable {P : Program} {w : World} {K : PySem.W.Frag} {mg : Str → Option Value} {base : Heap} {C : Addr}
/-- the pair of the plain machine's reads and ends -/
def PlainAt (H : Hp) (p : Addr) (rss : List (List Int)) (es : List Int) : Prop := ∃ b c ys, H p = some (.tup [.ref b, .ref c]) ∧ H b = some (.lst ys) ∧ Al (TiAt H) ys rss ∧ H c = some (.lst (es.map V.int))
def spPlain (C : Addr) (ti : PI0) : Sp := fun vs H Q _ => ∃ (p kdA c a : Addr) (is : List Ins), vs = [.ref p, .ref a] ∧ PipeAt C H p kdA c ti ∧ KdAt H kdA ti.ks ∧ ProgAt H a is ∧ is.length ≤ 100 ∧ (∀ i ∈ is, IsIns ti i) ∧ 1 ≤ ti.regs ∧ ti.regs ≤ 4 ∧
  ∀ (r : Addr) H', Same H H' → PlainAt H' r (plainS ti is).1 (plainS ti is).2 → Q (.ref r) H'
abbrev nPr : List Str := ["pipe", "program", "ends", "reads", "place", "instruction", "source"]
theorem scPr : FnScope nPr ["pipe", "program"] (defScope sPlain) := ⟨rfl, rfl, rfl, by decide +kernel, rfl, by decide +kernel, by decide +kernel⟩
theorem ok_plain {ti : PI0} {f fK : Addr} {fd fdK : FuncData} (F : Fun K "plain_reads" "plain_reads" sPlain f fd) (T : Txt K mg) (TC : TxtC K mg C)
    (DK : Dfn P w K mg base "check_program" 3 ["pipe", "program"] (spChk C ti) fK fdK) : FnOk P w K mg base CX0 4 f fd ["pipe", "program"] (spPlain C ti) := by
  refine F.ok scPr (fun vs H Q E h => ?_) (fun cdv A outer s H vs Q E hr h => ?_)
  · obtain ⟨p, kdA, c, a, is, rfl, _⟩ := h
    rfl
  · obtain ⟨p, kdA, c, a, is, rfl, hpipe, hkd, hprog, hsz, hok, r1, r4, k⟩ := h
    have nd := scPr.nd
    refine ⟨_, pss_cons (ps_expr (pcl DK hr (pa_cons (pv 0) (pa_cons (pv 1) pa_nil))))
      (pss_cons (ps_set (i := 2) nd rfl (.inr rfl) (pe_op L2.op_rep (plst (pa_cons (pe_un un_neg pe_int) pa_nil)) (pfd K (pv 0))))
      (pss_cons (ps_set (i := 3) nd rfl (.inl rfl) (plst pa_nil))
      (pss_cons (ps_for PassesOwn.never rfl (pi_enum (by rfl) T.enumerate (pa_cons (pv 1) pa_nil)) (pgT2 K 4 5 nd)
        (pss_cons (ps_expr (pe_bm PySem.F.plainAttrs_list PySem.F.slot_list_append PySem.F.type_list_append mt_append (pv 3) (pa_cons
            (pe_callTy call_tuple_of (by rfl) T.tuple (by decide +kernel) (pa_cons
              (pe_lc (own := [("source", 6)]) (g := gName 6) (by rfl) nd (pi_tup (pe_ix (ixT K) (pv 5) pe_int (fun _ _ => rfl))) (blkOk_by (N := nPr) (sc := defScope sPlain) (by decide +kernel))
                (fun _ _ _ _ _ => pg_name (i := 6) nd rfl (.inl rfl)) (fun _ _ _ _ _ => pts_nil)
                (fun _ _ _ _ _ => pe_ix (ixL K) (pv 2) (pv 6) (fun _ _ => rfl))) pa_nil)) pa_nil)))
        (pss_one (ps_if (pt_cmpR op_ge (pe_ix (ixT K) (pv 5) pe_int (fun _ _ => rfl)) pe_int (nomark _))
          (pss_one (ps_asg (pv 4) (pg_sub (pv 2) (pe_ix (ixT K) (pv 5) pe_int (fun _ _ => rfl)) set_list))) pss_nil))))
      (pss_one (ps_ret (ptup (pa_cons (pv 3) (pa_cons (pv 2) pa_nil)))))))), ?_⟩
    obtain ⟨dx, hp⟩ := id hpipe
    refine ⟨_, rfl, _, rfl, p, kdA, c, a, is, rfl, hpipe, hkd, hprog, by omega, hok, fun H1 s1 => ?_⟩
    refine ⟨_, rfl, ?_⟩
    refine rd_l1 fun q1 H2 n1 s2 e1 => ?_
    have s12 := s1.trans s2
    refine ⟨_, rfl, p, C, dx, _, _, rfl, s12 _ _ hp, TC.cl, TC.nr, pfl_r, ?_⟩
    refine ⟨q1, ti.regs, _, rfl, rfl, e1, by omega, by omega, (by show 1 * ti.regs.toNat ≤ sizeLine; exact sz (by omega)), fun B1 n2 => ?_⟩
    rw [flat_rep]
    have s3 := same_upd (o := HO.lst (List.replicate ti.regs.toNat (V.int (-1)))) n2
    refine rd_l0 fun B2 H4 n3 s4 hB2 => ?_
    have hB1 : H4 B1 = some (.lst (List.replicate ti.regs.toNat (V.int (-1)))) := s4 _ _ upd_same
    have s04 := (s12.trans s3).trans s4
    have nB1 : H B1 = none := s12.free n2
    have nB2 : H B2 = none := (s12.trans s3).free n3
    have b12 : B1 ≠ B2 := fun z => by rw [← z, upd_same] at n3; cases n3
    obtain ⟨ys, ha, hal⟩ := id hprog
    let σ0 : Option V → Option V → L2.St := fun v5 v6 => [some (.ref p), some (.ref a), some (.ref B1), some (.ref B2), v5, v6, none]
    refine ⟨_, rfl, a, ys, rfl, SqL.of (s04 _ _ ha), for_it (walk_enum (xs := ys)) (fun j σ' H' => ∃ v5 v6 ends zs, σ' = σ0 v5 v6 ∧ Same H H' ∧ H' B1 = some (.lst (ends.map V.int)) ∧ ends.length = ti.regs.toNat ∧ H' B2 = some (.lst zs) ∧
        ∃ rss, Al (TiAt H') zs rss ∧ rss.length = j ∧ plainS ti is = (rss ++ (plainF j ends (is.drop j)).1, (plainF j ends (is.drop j)).2))
      ⟨none, none, List.replicate ti.regs.toNat (-1), [], rfl, s04, by rw [hB1, List.map_replicate], by simp, hB2, [], Al.nil, rfl, by rw [List.drop_zero]; rfl⟩
      (fun j σ' H' _ hh => by obtain ⟨v5, v6, ends, zs, _, s, _⟩ := hh; exact SqL.of (s _ _ ha)) ?_ ?_⟩
    · rintro j y σ' H' H'' hj ⟨v5, v6, ends, zs, rfl, sH, hE, hEl, hZ, rss, hAl, hrl, hpl⟩ ⟨Tt, x1, x2, rfl, nT, rfl, e1', e2'⟩
      cases e1'
      obtain ⟨ins, hij, hin⟩ := hal.at e2'
      have hjl : j < is.length := (List.getElem?_eq_some_iff.mp hij).1
      have iok := hok ins (List.mem_of_getElem? hij)
      have edrop : is.drop j = ins :: is.drop (j + 1) := by
        rw [List.drop_eq_getElem_cons hjl]
        congr 1
        rw [List.getElem?_eq_getElem hjl] at hij
        exact Option.some.inj hij
      rw [edrop] at hpl
      have sT := same_upd (o := HO.tup [V.int (j : Nat), x2]) nT
      have sHT := sH.trans sT
      obtain ⟨ai, bi, rfl, hai, hbi⟩ := hin.mono sHT.tups
      refine ⟨Tt, _, rfl, SqT.of upd_same, rfl, _, _, rfl, _, _, rfl, rfl, ?_⟩
      have e1 := sT _ _ hE
      have e2 := sT _ _ hZ
      refine ⟨_, rfl, .inl ⟨rfl, _, SqL.of e2⟩, ?_⟩
      let rs := ins.srcs.map fun s => ends[s.toNat]?.getD 0
      refine ⟨_, rfl, ai, _, 2, _, rfl, rfl, SqT.of hai, rfl, bi, rfl, ⟨_, SqT.of hbi⟩, fun D nD => lc_tup (K := K) (xs := ins.srcs.map V.int) (fun j2 G4 => Same (upd H' Tt (.tup [V.int (j : Nat), V.ref ai])) G4 ∧ G4 D = some (.lst ((rs.take j2).map V.int)))
          ⟨same_upd nD, upd_same⟩ (fun j2 G4 _ hh => SqT.of (hh.1 _ _ hbi)) ?_ ?_⟩
      · rintro j2 y2 G4 hj2 ⟨s4', hD⟩
        obtain ⟨g, hsg, rfl⟩ := map_at hj2
        obtain ⟨g0, g1⟩ := iok.srcs g (List.mem_of_getElem? hsg)
        obtain ⟨gn, rfl⟩ := Int.eq_ofNat_of_zero_le g0
        have hgl : gn < ends.length := by omega
        have hge : ends[gn]? = some ends[gn] := List.getElem?_eq_getElem hgl
        refine ⟨rfl, ?_⟩
        refine ⟨_, rfl, _, rfl, B1, _, _, _, rfl, rfl, SqL.of (s4' _ _ e1), atI_nat (v := V.int ends[gn]) (by rw [List.getElem?_map, hge]; rfl), _, hD, ?_, s4'.mut nD, ?_⟩
        · rw [List.length_map, List.length_take]
          have := iok.len
          exact szl (by show min j2 (ins.srcs.map _).length ≤ 100000; rw [List.length_map]; omega)
        · have hrj : rs[j2]? = some ends[gn] := by
            show (ins.srcs.map _)[j2]? = _
            rw [List.getElem?_map, hsg]
            show some (ends[gn]?.getD 0) = _
            rw [hge]; rfl
          rw [upd_same, map_take_succ hrj]
      · rintro G4 ⟨s4', hD⟩
        rw [List.length_map, show ins.srcs.length = rs.length by simp [rs], List.take_length] at hD
        refine ⟨D, _, rfl, .inl ⟨SqL.of hD, fun l hl => ?_⟩⟩
        have s5 := same_upd (o := HO.tup (rs.map V.int)) hl
        have s45 := s4'.trans s5
        have e2' := s45 _ _ e2
        have e1' := s45 _ _ e1
        refine ⟨B2, zs, _, rfl, rfl, e2', (by rw [hAl.1, hrl]; exact szl (by omega)), ?_⟩
        have t6 := tups_lst (o := HO.lst (zs ++ [V.ref l])) e2'
        have s06 : Same H (upd (upd G4 l (.tup (rs.map V.int))) B2 (.lst (zs ++ [V.ref l]))) := (sHT.trans s45).mut nB2
        have hAl' : Al (TiAt (upd (upd G4 l (.tup (rs.map V.int))) B2 (.lst (zs ++ [V.ref l])))) (zs ++ [V.ref l]) (rss ++ [rs]) :=
          Al.snoc (hAl.mono fun _ _ q => TiAt.mono t6 (TiAt.mono (sT.trans s45).tups q)) ⟨l, rfl, t6 _ _ upd_same⟩
        have f1 : (upd (upd G4 l (.tup (rs.map V.int))) B2 (.lst (zs ++ [V.ref l]))) B1 = some (.lst (ends.map V.int)) := by rw [upd_ne b12]; exact e1'
        have hai' := t6 _ _ (s45.tups _ _ hai)
        refine ⟨_, rfl, ai, _, 1, _, rfl, rfl, SqT.of hai', rfl, _, _, rfl, rfl, _, rfl, ?_⟩
        have hstep : plainS ti is = ((rss ++ [rs]) ++ (plainF (j + 1) (if 0 ≤ ins.goal then ends.set ins.goal.toNat (j : Int) else ends) (is.drop (j + 1))).1, (plainF (j + 1) (if 0 ≤ ins.goal then ends.set ins.goal.toNat (j : Int) else ends) (is.drop (j + 1))).2) := by
          rw [hpl]
          show (rss ++ (rs :: _), _) = _
          rw [List.append_assoc]; rfl
        by_cases hg : 0 ≤ ins.goal
        · rw [if_pos hg] at hstep
          rw [show decide (0 ≤ ins.goal) = true from decide_eq_true hg]
          refine iteT ?_
          have hgl : ins.goal.toNat < ends.length := by have := iok.goal.2; omega
          have hgi : ins.goal = (ins.goal.toNat : Int) := by omega
          refine ⟨_, rfl, _, rfl, _, rfl, ai, _, 1, _, rfl, rfl, SqT.of hai', rfl, B1, _, _, ins.goal.toNat, rfl, rfl, f1, by rw [List.length_map]; exact hgi ▸ Evl.ixN_nat hgl, ?_⟩
          have t7 := tups_lst (o := HO.lst ((ends.map V.int).set ins.goal.toNat (V.int (j : Nat)))) f1
          refine ⟨_, _, ends.set ins.goal.toNat (j : Int), _, rfl, s06.mut nB1, ?_, by rw [List.length_set]; exact hEl, by rw [upd_ne b12.symm]; exact upd_same, rss ++ [rs], hAl'.mono fun _ _ q => TiAt.mono t7 q, by rw [List.length_append, hrl]; rfl, hstep⟩
          rw [upd_same, List.map_set]
        · rw [if_neg hg] at hstep
          rw [show decide (0 ≤ ins.goal) = false from decide_eq_false hg]
          refine iteF ?_
          exact ⟨_, _, ends, _, rfl, s06, f1, hEl, upd_same, rss ++ [rs], hAl', by rw [List.length_append, hrl]; rfl, hstep⟩
    · rintro σ' H' ⟨v5, v6, ends, zs, rfl, sH, hE, hEl, hZ, rss, hAl, hrl, hpl⟩
      rw [hal.1, List.drop_length] at hpl
      have hpl' : plainS ti is = (rss, ends) := by rw [hpl]; show (rss ++ [], _) = _; rw [List.append_nil]; rfl
      refine ⟨_, rfl, _, rfl, ?_⟩
      refine rd_t2 fun r HZ sZ hr' => ?_
      refine k r HZ (sH.trans sZ) ?_
      rw [hpl']
      exact ⟨B2, B1, zs, hr', sZ _ _ hZ, hAl.mono fun _ _ q => TiAt.mono sZ.tups q, sZ _ _ hE⟩
end
end K3
namespace K3
open PySem PySem.Spec PyProof.Rows L2
/-! ### lists of tuples of ints, compared -/
def dI (l : List Int) : PyData := .tuple (l.map PyData.int)
def dR (rss : List (List Int)) : PyData := .list (rss.map dI)
def dE (es : List Int) : PyData := .list (es.map PyData.int)
def dP (q : List (List Int) × List Int) : PyData := .tuple [dR q.1, dE q.2]
theorem dp_intsL {K : PySem.W.Frag} {H : Hp} : ∀ l : List Int, DpAll K H (l.map V.int) (l.map PyData.int)
  | [] => .nil
  | x :: l => .cons (.int x) (dp_intsL l)
theorem dp_ti {K : PySem.W.Frag} {H : Hp} {v : V} {l : List Int} (h : TiAt H v l) : Dp K H v (dI l) := by
  obtain ⟨a, rfl, ha⟩ := h
  exact .tup (SqT.of ha) (dp_intsL l)
theorem dp_tis {K : PySem.W.Frag} {H : Hp} : ∀ {zs : List V} {rss : List (List Int)}, Al (TiAt H) zs rss → DpAll K H zs (rss.map dI)
  | [], [], _ => .nil
  | z :: zs, r :: rss, h => .cons (dp_ti (h.2 0 z r rfl rfl)) (dp_tis ⟨by have := h.1; simp at this; exact this, fun i x d hx hd => h.2 (i + 1) x d (by simpa using hx) (by simpa using hd)⟩)
  | [], _ :: _, h => by have := h.1; simp at this
  | _ :: _, [], h => by have := h.1; simp at this
theorem eqv_ints : ∀ l l' : List Int, PyData.eqvAll (l.map PyData.int) (l'.map PyData.int) = decide (l = l')
  | [], [] => rfl
  | [], _ :: _ => rfl
  | _ :: _, [] => rfl
  | x :: l, y :: l' => by
    show (x == y && PyData.eqvAll (l.map PyData.int) (l'.map PyData.int)) = _
    rw [eqv_ints l l']
    by_cases h1 : x = y
    · subst h1
      by_cases h2 : l = l'
      · subst h2; simp
      · simp [h2]
    · simp [h1]
theorem eqv_tis : ∀ l l' : List (List Int), PyData.eqvAll (l.map dI) (l'.map dI) = decide (l = l')
  | [], [] => rfl
  | [], _ :: _ => rfl
  | _ :: _, [] => rfl
  | x :: l, y :: l' => by
    show (PyData.eqvAll (x.map PyData.int) (y.map PyData.int) && PyData.eqvAll (l.map dI) (l'.map dI)) = _
    rw [eqv_tis l l', eqv_ints]
    by_cases h1 : x = y
    · subst h1
      by_cases h2 : l = l'
      · subst h2; simp
      · simp [h2]
    · simp [h1]
theorem eqv_dP (q q' : List (List Int) × List Int) : PyData.eqv (dP q) (dP q') = decide (q = q') := by
  show (PyData.eqvAll (q.1.map dI) (q'.1.map dI) && (PyData.eqvAll (q.2.map PyData.int) (q'.2.map PyData.int) && true)) = _
  rw [eqv_tis, eqv_ints]
  obtain ⟨a, b⟩ := q
  obtain ⟨c, d⟩ := q'
  by_cases h1 : a = c
  · subst h1
    by_cases h2 : b = d
    · subst h2; simp
    · simp [h2]
  · simp [h1]
theorem lay_ints : ∀ l : List Int, PyData.canLayAll0 (l.map PyData.int) = true
  | [] => by rw [List.map_nil]; unfold PyData.canLayAll0; rfl
  | x :: l => by rw [List.map_cons]; unfold PyData.canLayAll0; rw [lay_ints l]; unfold PyData.canLay0; rfl
theorem lay_tis : ∀ l : List (List Int), PyData.canLayAll0 (l.map dI) = true
  | [] => by rw [List.map_nil]; unfold PyData.canLayAll0; rfl
  | x :: l => by rw [List.map_cons]; unfold PyData.canLayAll0; rw [lay_tis l]; unfold dI PyData.canLay0; rw [lay_ints]; rfl
theorem lay_dP (q : List (List Int) × List Int) : (dP q).canLay0 = true := by
  unfold dP PyData.canLay0 PyData.canLayAll0 PyData.canLayAll0 PyData.canLayAll0 dR dE PyData.canLay0
  rw [lay_tis, lay_ints]; rfl
theorem dep_ints : ∀ l : List Int, PyData.depthAll (l.map PyData.int) = 0
  | [] => by rw [List.map_nil]; unfold PyData.depthAll; rfl
  | x :: l => by rw [List.map_cons]; unfold PyData.depthAll; rw [dep_ints l]; unfold PyData.depth; rfl
theorem dep_tis : ∀ l : List (List Int), PyData.depthAll (l.map dI) ≤ 1
  | [] => by rw [List.map_nil]; unfold PyData.depthAll; omega
  | x :: l => by
    rw [List.map_cons]; unfold PyData.depthAll
    have h1 := dep_tis l
    have h2 : (dI x).depth = 1 := by unfold dI PyData.depth; rw [dep_ints]
    rw [h2]; omega
theorem shaped_dP (q : List (List Int) × List Int) : SeqAt.shaped (dP q) = true := by
  unfold SeqAt.shaped
  rw [lay_dP]
  have h1 : (dR q.1).depth ≤ 2 := by unfold dR PyData.depth; have := dep_tis q.1; omega
  have h2 : (dE q.2).depth = 1 := by unfold dE PyData.depth; rw [dep_ints]
  have : (dP q).depth ≤ 64 := by
    unfold dP PyData.depth PyData.depthAll PyData.depthAll PyData.depthAll
    omega
  rw [decide_eq_true this]; rfl
section
variable {P : Program} {w : World} {K : PySem.W.Frag} {mg : Str → Option Value} {base : Heap} {C CL : Addr}
/-! ### need_pipe, of a pipe -/
def spNeed (C : Addr) : Sp := fun vs H Q _ => ∃ (p dx : Addr) (fs : List (Str × V)), vs = [.ref p] ∧ H p = some (.ins C dx fs) ∧ Q .non H
theorem scNeed : FnScope ["pipe"] ["pipe"] (defScope sNeed) := ⟨rfl, rfl, rfl, by decide +kernel, rfl, by decide +kernel, by decide +kernel⟩
theorem ok_need {f : Addr} {fd : FuncData} (F : Fun K "need_pipe" "need_pipe" sNeed f fd) (T : Txt K mg) (hC : mg "Pipe" = some (.ref C)) (IC : C8.InsC K C) : FnOk P w K mg base CX0 1 f fd ["pipe"] (spNeed C) := by
  refine F.ok scNeed (fun vs H Q E h => ?_) (fun cdv A outer s H vs Q E hr h => ?_)
  · obtain ⟨p, dx, fs, rfl, _⟩ := h
    rfl
  · obtain ⟨p, dx, fs, rfl, hp, k⟩ := h
    refine ⟨_, pss_one (ps_if (pt_not (pt_val (pe_callB (C8.call_isC IC) (by rfl) T.isinst (by decide +kernel) (pa_cons (pv 0) (pa_cons (pgl (v := .ref C) ⟨_, hC, rfl⟩) pa_nil))))) (pss_one ps_never) pss_nil), ?_⟩
    refine ⟨_, rfl, p, dx, fs, rfl, hp, true, rfl, ?_⟩
    exact iteF k
end
end K3
namespace K3
open PySem PySem.Spec PyProof.Rows L2
theorem plf_r {a b c : Addr} : (plf a b c).lookup ("reads" : Str) = some (.ref b) := by
  unfold plf
  simp only [List.lookup, show (("reads" : Str) == "held") = false by decide +kernel]
  rfl
theorem plf_e {a b c : Addr} : (plf a b c).lookup ("ends" : Str) = some (.ref c) := by
  unfold plf
  simp only [List.lookup, show (("ends" : Str) == "held") = false by decide +kernel, show (("ends" : Str) == "reads") = false by decide +kernel]
  rfl
section
variable {P : Program} {w : World} {K : PySem.W.Frag} {mg : Str → Option Value} {base : Heap} {C CL : Addr}
/-! ### is_right -/
def spIsR (P : Program) (w : World) (C : Addr) (ti : PI0) : Sp := fun vs H Q _ => ∃ (p kdA c a : Addr) (is : List Ins) (xs : List Kp) (hs : List Int) (rss : List (List Int)) (es : List Int), vs = [.ref p, .ref a] ∧ PipeAt C H p kdA c ti ∧ KdAt H kdA ti.ks ∧ CacheAt P w ti.ks H c xs ∧ ProgAt H a is ∧ is.length ≤ 100 ∧ (∀ i ∈ is, IsIns ti i) ∧ 1 ≤ ti.regs ∧ ti.regs ≤ 4 ∧ xs.length ≤ 70000 ∧
  playS ti is = some (hs, rss, es) ∧ ∀ H' xs', But c H H' → CacheAt P w ti.ks H' c xs' → xs'.length ≤ xs.length + 50 * is.length → Q (.bl (decide ((rss, es) = plainS ti is))) H'
theorem scIsR : FnScope ["pipe", "program", "told"] ["pipe", "program"] (defScope sIsRight) := ⟨rfl, rfl, rfl, by decide +kernel, rfl, by decide +kernel, by decide +kernel⟩
theorem ok_isR {ti : PI0} {f fN fP fR : Addr} {fd fdN fdP fdR : FuncData} (F : Fun K "is_right" "is_right" sIsRight f fd) (TL : TxtL K mg CL)
    (DN : Dfn P w K mg base "need_pipe" 1 ["pipe"] (spNeed C) fN fdN) (DP : Dfn P w K mg base "played" 4 ["pipe", "program"] (spPlayed P w C CL ti) fP fdP)
    (DR : Dfn P w K mg base "plain_reads" 4 ["pipe", "program"] (spPlain C ti) fR fdR) : FnOk P w K mg base CX0 5 f fd ["pipe", "program"] (spIsR P w C ti) := by
  refine F.ok scIsR (fun vs H Q E h => ?_) (fun cdv A outer s H vs Q E hr h => ?_)
  · obtain ⟨p, kdA, c, a, is, xs, hs, rss, es, rfl, _⟩ := h
    rfl
  · obtain ⟨p, kdA, c, a, is, xs, hs, rss, es, rfl, hpipe, hkd, hc, hprog, hsz, hok, r1, r4, hxs, hplay, k⟩ := h
    have nd := scIsR.nd
    have hr1 : Room 1 _ := hr.mono (by decide)
    refine ⟨_, pss_cons (ps_expr (pcl DN hr1 (pa_cons (pv 0) pa_nil)))
      (pss_cons (ps_set (i := 2) nd rfl (.inl rfl) (pcl DP hr (pa_cons (pv 0) (pa_cons (pv 1) pa_nil))))
      (pss_one (ps_ret (pe_cmpR (eqDK K hr.units) (ptup (pa_cons (pfd K (pv 2)) (pa_cons (pfd K (pv 2)) pa_nil))) (pcl DR hr (pa_cons (pv 0) (pa_cons (pv 1) pa_nil))) (nomark _))))), ?_⟩
    obtain ⟨dx, hp⟩ := id hpipe
    refine ⟨_, rfl, p, dx, _, rfl, hp, ?_⟩
    refine ⟨_, rfl, _, rfl, p, kdA, c, a, is, xs, hs, rss, es, rfl, hpipe, hkd, hc, hprog, hsz, hok, r1, r4, hxs, hplay, fun r H1 xs1 b1 c1 l1 hP => ?_⟩
    obtain ⟨dl, pa, pb, pc, ys, hr', hA, hB, hAl, hE⟩ := hP
    refine ⟨_, rfl, r, CL, dl, _, _, rfl, hr', TL.cl, TL.nr, plf_r, _, rfl, r, CL, dl, _, _, rfl, hr', TL.cl, TL.ne, plf_e, ?_⟩
    refine rd_t2 fun t H2 s2 ht => ?_
    have hpipe1 := but_pipe hc b1 hpipe
    have hkd1 := but_kd hc b1 hkd
    have hprog1 := but_prog hc b1 hprog
    obtain ⟨dx1, hp1⟩ := hpipe1
    refine ⟨_, rfl, _, rfl, p, kdA, c, a, is, rfl, ⟨dx1, s2 _ _ hp1⟩, hkd1.same s2, hprog1.same s2, hsz, hok, r1, r4, fun q H3 s3 hq => ?_⟩
    obtain ⟨qb, qc, zs, hq1, hq2, hqA, hq3⟩ := hq
    have s23 := s2.trans s3
    refine ⟨dP (rss, es), dP (plainS ti is), ?_, ?_, shaped_dP _, shaped_dP _, ?_⟩
    · exact .tup (SqT.of (s3 _ _ ht)) (.cons (.lst (SqL.of (s23 _ _ hB)) (dp_tis (hAl.mono fun _ _ z => TiAt.mono s23.tups z))) (.cons (.lst (SqL.of (s23 _ _ hE)) (dp_intsL es)) .nil))
    · exact .tup (SqT.of hq1) (.cons (.lst (SqL.of hq2) (dp_tis hqA)) (.cons (.lst (SqL.of hq3) (dp_intsL _)) .nil))
    · rw [eqv_dP]
      exact k H3 xs1 (b1.trans (s23.but c)) (c1.same s23) l1
end
end K3
namespace K3
open PySem PySem.Spec PyProof.Rows L2
/-! ### a dict whose keys are standings -/
def keySt (st : List (List E)) : NestedKey := .tup (st.map keyEs)
theorem keySt_inj {s t : List (List E)} (h : keySt s = keySt t) : s = t := by
  unfold keySt at h
  injection h with h
  induction s generalizing t with
  | nil => cases t with
    | nil => rfl
    | cons f fs => cases h
  | cons e es ih => cases t with
    | nil => cases h
    | cons f fs =>
      simp only [List.map_cons, List.cons.injEq] at h
      rw [keyEs_inj h.1, ih h.2]
theorem keyEs_depth2 (es : List E) : (keyEs es).depth ≤ 2 := by
  have h1 : ∀ es : List E, NestedKey.depthAll (es.map keyEn) ≤ 1 := by
    intro es
    induction es with
    | nil => exact Nat.zero_le _
    | cons e es ih =>
      rw [List.map_cons]
      unfold NestedKey.depthAll
      rw [keyEn_depth]
      exact Nat.max_le.mpr ⟨Nat.le_refl _, ih⟩
  unfold keyEs NestedKey.depth
  have := h1 es
  omega
theorem keySt_depth (st : List (List E)) : (keySt st).depth ≤ 8 := by
  have h1 : ∀ st : List (List E), NestedKey.depthAll (st.map keyEs) ≤ 2 := by
    intro st
    induction st with
    | nil => exact Nat.zero_le _
    | cons e es ih =>
      rw [List.map_cons]
      unfold NestedKey.depthAll
      exact Nat.max_le.mpr ⟨keyEs_depth2 e, ih⟩
  unfold keySt NestedKey.depth
  have := h1 st
  omega
/-- what is found: a standing, its own tuple, what is kept of it -/
abbrev Fe := List (List E) × Addr × Option Addr
def fU : Option Addr → Value
  | none => .none
  | some a => .ref a
def fV : Option Addr → V
  | none => .non
  | some a => .ref a
def fx (q : Fe) : NestedKey × Addr × Value := (keySt q.1, q.2.1, fU q.2.2)
def fph (P : Program) (w : World) (c : Addr) (xs : List Fe) : Heap → Prop := fun h => (c == sysModules) = false ∧ ∃ o es ep, h.get? c = some o ∧ o.ExactDict ∧ o.data = .dict es ep ∧ es.toList = (xs.map fx).map (entryOfKey (nestedKind P w)) ∧ ((xs.map fx).map (·.1)).Nodup
def FoundO (P : Program) (w : World) (c : Addr) (xs : List Fe) : HO := .ext (fph P w c xs)
theorem fph_ok {P : Program} {w : World} {H : Hp} {h : Heap} {c : Addr} {xs : List Fe} (p : fph P w c xs h) : ObjOk P w H h c (FoundO P w c xs) := by
  refine ⟨p, ?_, ?_⟩
  · obtain ⟨_, o, _, _, e, _⟩ := p
    exact ⟨o, e⟩
  · rintro h1 h2 ⟨z, o, es, ep, e, r⟩ hk
    exact ⟨z, o, es, ep, hk o e, r⟩
section
variable {P : Program} {w : World} {H : Hp} {h : Heap}
theorem nested_st (ok : HOk P w H h) {st : List (List E)} {a : Addr} {xs : List V} (ha : H a = some (.tup xs)) (hal : Al (EnsAt H) xs st) : (nestedKind P w).is h (keySt st) a := by
  refine ⟨?_, keySt_depth st⟩
  obtain ⟨_, its, r, o, h1, h2, n, h3⟩ := (show ObjOk P w H h a (.tup xs) from ok a _ ha)
  refine .tup h1 h2 h3 ?_
  have key : ∀ (xs : List V) (st : List (List E)) (its : List Value), Vals xs its → Al (EnsAt H) xs st → NestedAll h (st.map keyEs) its := by
    intro xs
    induction xs with
    | nil =>
      intro es its r hal
      cases r
      have := hal.1
      cases es with
      | nil => exact .nil
      | cons _ _ => simp at this
    | cons x xs ih =>
      intro es its r hal
      cases r with
      | cons rx rr =>
        cases es with
        | nil => have := hal.1; simp at this
        | cons e es =>
          obtain ⟨b, ys, rfl, hb, hy⟩ := hal.2 0 x e rfl rfl
          have hx : Al (EnsAt H) xs es := ⟨by have := hal.1; simp at this; exact this, fun i y d hy hd => hal.2 (i + 1) y d (by simpa using hy) (by simpa using hd)⟩
          rw [List.map_cons]
          refine .cons ?_ (ih es _ rr hx)
          cases (show _ = Value.ref b from rx)
          exact (nested_of ok hb hy).1
  simpa using key xs st its r hal
end
structure FoundAt (P : Program) (w : World) (H : Hp) (c : Addr) (xs : List Fe) : Prop where
  at_ : H c = some (FoundO P w c xs)
  ok : ∀ q ∈ xs, StAt H (.ref q.2.1) q.1
theorem FoundAt.but {P : Program} {w : World} {H H' : Hp} {c : Addr} {xs : List Fe} (h : FoundAt P w H c xs) (e : H' c = H c) (t : Tups H H') : FoundAt P w H' c xs :=
  ⟨by rw [e]; exact h.at_, fun q hq => (h.ok q hq).mono t⟩
section
variable {X : Cx}
theorem fdict_of {pins : List (Addr × Obj)} {σ : L2.St} {H : Hp} {s : Shared} {c : Addr} {xs : List Fe} (I : Inv X pins σ H s) (hc : FoundAt X.prog X.w H c xs) :
    (c == sysModules) = false ∧ s.heap.DictOfH (nestedKind X.prog X.w) c (xs.map fx) := by
  obtain ⟨⟨z, o, es, ep, h1, h2, h3, h4, h5⟩, _⟩ := I.hok c _ hc.at_
  refine ⟨z, o, es, ep, h1, h2, h3, h4, fun x hx => ?_, h5⟩
  obtain ⟨q, hq, rfl⟩ := List.mem_map.mp hx
  obtain ⟨a, ys, e, ha, hal⟩ := hc.ok q hq
  cases e
  exact nested_st I.hok ha hal
theorem rel_f (o : Option Addr) : RelV (fV o) (fU o) := by cases o <;> rfl
@[irreducible] def rFIn (P : Program) (w : World) : R2 := fun x y H Q => ∃ (c : Addr) (xs : List Fe) (st : List (List E)), y = .ref c ∧ FoundAt P w H c xs ∧ StAt H x st ∧
  Q (.bl (atKey (xs.map fx) (keySt st)).isSome) H
theorem op_fin (P : Program) (w : World) (hu : X.A.units + 64 < cLine) (hP : X.prog = P := by rfl) (hw : X.w = w := by rfl) : OpR X (compareOp .In) (rFIn P w) := by
  subst hP hw
  unfold rFIn
  intro pins s σ H x y v u Q I rx ry h
  obtain ⟨c, xs, st, rfl, hc, ⟨a, ys, rfl, ha, hal⟩, k⟩ := h
  cases rx
  cases ry
  obtain ⟨hd, hm⟩ := fdict_of I hc
  refine wpAny_in_heap (room_n hu) (nested_st I.hok ha hal) hd hm ?_
  exact ⟨.bl _, H, I.tok _, rfl, k⟩
@[irreducible] def rFGet (P : Program) (w : World) : R2 := fun x y H Q => ∃ (c : Addr) (st : List (List E)) (xs : List Fe) (q : Fe), x = .ref c ∧ FoundAt P w H c xs ∧ StAt H y st ∧
  atKey (xs.map fx) (keySt st) = some (q.2.1, fU q.2.2) ∧ Q (fV q.2.2) H
theorem ix_f (P : Program) (w : World) (hu : X.A.units + 64 < cLine) (hP : X.prog = P := by rfl) (hw : X.w = w := by rfl) : IxR X (rFGet P w) := by
  subst hP hw
  unfold rFGet
  intro value slice pins s σ H x y v u Q I rx ry h hs
  obtain ⟨c, st, xs, q, rfl, hc, ⟨a, ys, rfl, ha, hal⟩, hat, k⟩ := h
  cases rx
  cases ry
  obtain ⟨hd, hm⟩ := fdict_of I hc
  refine subscriptTail_builtinR (x := fU q.2.2) hm.typeIs PySem.F.slot_dict_getitem.lookup ?_ hs
  refine wpAny_getItem_heap (room_n hu) (nested_st I.hok ha hal) hm hat ?_
  exact ⟨rfl, fV q.2.2, H, I.tok _, rel_f _, k⟩
@[irreducible] def rFSet (P : Program) (w : World) : V → V → V → Hp → (Hp → Prop) → Prop := fun o i v H Q => ∃ (c ka va : Addr) (st : List (List E)) (xs : List Fe), o = .ref c ∧ i = .ref ka ∧ v = .ref va ∧ FoundAt P w H c xs ∧ StAt H i st ∧
  atKey (xs.map fx) (keySt st) = none ∧ xs.length ≤ 100000 ∧ ∀ H', But c H H' → FoundAt P w H' c (xs ++ [(st, ka, some va)]) → Q H'
theorem set_f (P : Program) (w : World) (hu : X.A.units + 64 < cLine) (hP : X.prog = P := by rfl) (hw : X.w = w := by rfl) : PSet X (rFSet P w) := by
  subst hP hw
  unfold rFSet
  intro pins s σ H o i v ov iv u Q I ro ri rv h
  obtain ⟨c, ka, va, st, xs, rfl, rfl, rfl, hc, he, hat, hl, k⟩ := h
  cases ro
  cases ri
  cases rv
  obtain ⟨a, ys, e, ha, hal⟩ := id he
  cases e
  obtain ⟨hd, hm⟩ := fdict_of I hc
  refine wpAny_setItem_heap (hsz := by rw [List.length_map]; exact sz hl) (room_n hu) (nested_st I.hok ha hal) hm fun h' dd' hs => ?_
  rw [storedH_new hat] at dd'
  have em : xs.map fx ++ [(keySt st, ka, Value.ref va)] = (xs ++ [(st, ka, some va)]).map fx := by rw [List.map_append]; rfl
  rw [em] at dd'
  obtain ⟨q, es', ep, hq, h2, h3, h4, _, h5⟩ := dd'
  have b : But c H (upd H c (FoundO X.prog X.w c (xs ++ [(st, ka, some va)]))) := but_upd
  have tp : Tups H (upd H c (FoundO X.prog X.w c (xs ++ [(st, ka, some va)]))) := fun d ys e => b d _ (fun z => by rw [z, hc.at_] at e; cases e) e
  refine ⟨upd H c (FoundO X.prog X.w c (xs ++ [(st, ka, some va)])), ?_, k _ b ⟨upd_same, fun x hx => ?_⟩⟩
  · exact d_write I (by rw [hc.at_]; exact True.intro) hs ⟨q, hq⟩ (fph_ok ⟨hd, q, es', ep, hq, h2, h3, h4, h5⟩)
  · rcases List.mem_append.mp hx with hx | hx
    · exact (hc.ok x hx).mono tp
    · rw [List.mem_singleton] at hx; subst hx
      exact he.mono tp
end
end K3
namespace K3
open PySem PySem.Spec PyProof.Rows L2
/-! ### list(found) -/
theorem kdl_raw {prog : Program} {w : World} {d : Addr} {es : Array DictEntry} {ep : Nat} (lo : (d == sysModules) = false) :
    PySem.W.KdlSrc prog w "dict" d d es.size (fun i v => ∃ hi : i < es.size, v = es[i].key) (fun h => h.DictRaw d es ep) where
  type := fun _ hm => hm.typeIs
  there := fun _ hm => let ⟨_, ho, _⟩ := hm; ⟨Heap.lt_size ho, Heap.lt_size ho⟩
  keep := fun _ _ hm hk => hm.at fun o e => hk d (.inl rfl) o e
  notList := by decide
  notTuple := by decide
  hint := fun _ _ _ _ hm hq => PySem.W.kdl_hint_dict hm.typeIs hq
  iter := fun _ _ hh hm => ⟨_, _, (fun _ _ hq => wpAny_pyIter_dict_raw lo hm hq), Walks.rawKeys hh _ d (let ⟨_, ho, _⟩ := hm; Nat.ne_of_lt (Heap.lt_size ho)) es ep, ⟨⟨_, Heap.get?_push_size _ rfl, rfl, rfl⟩, hm.at fun o e => Heap.get?_push_of_some _ e⟩⟩
section
variable {X : Cx}
def fK (xs : List Fe) : List V := xs.map fun q => V.ref q.2.1
theorem vals_keys : ∀ {xs : List Fe} {vs : List Value}, vs.length = xs.length → (∀ (j : Nat) (v : Value) (q : Fe), vs[j]? = some v → xs[j]? = some q → v = .ref q.2.1) → Vals (fK xs) vs
  | [], [], _, _ => .nil
  | q :: xs, v :: vs, hl, hv => by
    have h0 := hv 0 v q rfl rfl
    subst h0
    exact .cons rfl (vals_keys (by simpa using hl) fun j u r hu hr => hv (j + 1) u r (by simpa using hu) (by simpa using hr))
  | [], _ :: _, hl, _ => by simp at hl
  | _ :: _, [], hl, _ => by simp at hl
theorem call_listF (P : Program) (w : World) (hcalm : X.calm = true) (hP : X.prog = P := by rfl) (hw : X.w = w := by rfl) : CallR X (.type "list") (fun us H Q => ∃ (a : Addr) (xs : List Fe), us = [.ref a] ∧ FoundAt P w H a xs ∧ xs.length ≤ 100000 ∧
    ∀ p H', H p = none → Same H H' → H' p = some (.lst (fK xs)) → Q (.ref p) H') := by
  subst hP hw
  intro pins s σ H us vs Q I r q
  obtain ⟨a, xs, ex, hd, hz, q⟩ := q
  subst ex
  obtain ⟨u, eu, rx⟩ := vals1 r
  subst eu
  cases rx
  obtain ⟨⟨lo, o, es, ep, h1, h2, h3, h4, h5⟩, _⟩ := I.hok a _ hd.at_
  have hel : es.size = xs.length := by
    have := congrArg List.length h4
    simpa using this
  refine PySem.W.kdl_call (kdl_raw (es := es) (ep := ep) lo) (I.ok.hd hcalm) ⟨o, h1, h2, h3⟩ (by rw [hel]; exact sz hz) fun h' tk acc c' hk hD hacc => ?_
  have hv : Vals (fK xs) acc.toList := by
    refine vals_keys (by rw [Array.length_toList, hacc.1, hel]) fun j v q hj hq => ?_
    obtain ⟨hi, e⟩ := hacc.2 j v (by rw [← Array.getElem?_toList]; exact hj)
    have h6 : es.toList[j]? = some (entryOfKey (nestedKind X.prog X.w) (fx q)) := by
      rw [h4, List.getElem?_map, List.getElem?_map, hq]; rfl
    rw [Array.getElem?_toList, Array.getElem?_eq_getElem hi] at h6
    rw [e, Option.some.inj h6]; rfl
  refine ⟨.ref s.heap.objs.size, upd H s.heap.objs.size (.lst (fK xs)), I.laid (t' := tk) hk (Nat.le_refl _)
    (show ObjOk X.prog X.w _ _ _ (.lst (fK xs)) from ⟨by unfold fK; rw [List.length_map]; exact sz hz, acc.toList, c', hv, by rw [Array.toArray_toList]; exact hD⟩), rfl, q _ _ (I.hok.fresh (Nat.le_refl _)) (same_upd (I.hok.fresh (Nat.le_refl _))) upd_same⟩
end
end K3
namespace K3
open PySem PySem.Spec PyProof.Rows L2
section
variable {X : Cx}
/-- {standing: None} -/
def tDisp1 (P : Program) (w : World) (tk tv : TE) : TE := fun σ H Q => ∀ p, H p = none → tPairs [(tk, tv)] σ (upd H p (FoundO P w p [])) fun ps H2 => ∃ (ka : Addr) (st : List (List E)), ps = [(.ref ka, .non)] ∧ H2 p = some (FoundO P w p []) ∧ StAt H2 (.ref ka) st ∧
  ∀ H', But p H2 H' → FoundAt P w H' p [(st, ka, none)] → Q (.ref p) H'
theorem pe_disp1 (P : Program) (w : World) {k v : Expr} {tk tv : TE} {pos : Pos} (hu : X.A.units + 64 < cLine) (hk : PE X k tk) (hv : PE X v tv) (hP : X.prog = P := by rfl) (hw : X.w = w := by rfl) : PE X (.Dict [some k] [v] pos) (tDisp1 P w tk tv) := by
  subst hP hw
  refine ⟨fun pins s σ H Q I q => ?_⟩
  have hn := I.hok.fresh (Nat.le_refl s.heap.objs.size)
  have hnm : (s.heap.objs.size == sysModules) = false := beq_eq_false_iff_ne.mpr (Ne.symm (Nat.ne_of_lt I.big))
  have I1 := I.laid (a := s.heap.objs.size) (o := FoundO X.prog X.w s.heap.objs.size []) (h' := s.heap.push { cls := .type "dict", data := .dict #[] }) (t' := s.toks) (fun _ _ q => Heap.get?_push_of_some _ q) (Nat.le_refl _)
    (fph_ok ⟨hnm, _, #[], 0, Heap.get?_push_size _ rfl, ⟨rfl, rfl, rfl⟩, rfl, rfl, List.nodup_nil⟩)
  have pp : PPs X pos [some k] [v] [(tk, tv)] := pps_cons hk hv pps_nil
  refine wpAny_Dict_any (by rfl) rfl (by simp) (by show 1 ≤ 15; decide) (thn (pp.run pins _ σ _ _ I1 (q _ hn)) fun ws s2 ⟨ps, H2, I2, rel, ka, st, eps, hp2, hst, q2⟩ => ?_)
  subst eps
  have hw1 : ∃ u : Value × Value, ws = [u] ∧ RelV (.ref ka) u.1 ∧ RelV .non u.2 := by
    cases rel with
    | cons r1 rr => cases rr; exact ⟨_, rfl, r1⟩
  obtain ⟨⟨kv1, kv2⟩, rfl, ra, rb⟩ := hw1
  · cases (show kv1 = Value.ref ka from ra)
    cases (show kv2 = Value.none from rb)
    have hf : FoundAt X.prog X.w H2 s.heap.objs.size [] := ⟨hp2, fun q hq => by cases hq⟩
    obtain ⟨hd, hm⟩ := fdict_of I2 hf
    obtain ⟨a, ys, e, ha, hal⟩ := id hst
    cases e
    show wpAny _ _ (storeAll _ [(Value.ref ka, Value.none)]) _ _ _
    unfold storeAll
    rw [List.forIn_cons]
    refine wpAny_bind (wpAny_bind (wpAny_dictSet_heap (hsz := Nat.zero_le _) (show X.A.units + 8 < cLine by omega) (nested_st I2.hok ha hal) hm fun h' dd' hs => wpAny_pure ?_))
    simp only []
    rw [List.forIn_nil]
    refine wpAny_pure ?_
    obtain ⟨qo, es', ep, hq, h2, h3, h4, _, h5⟩ := dd'
    have b : But s.heap.objs.size H2 (upd H2 s.heap.objs.size (FoundO X.prog X.w s.heap.objs.size [(st, ka, none)])) := but_upd
    have tp : Tups H2 (upd H2 s.heap.objs.size (FoundO X.prog X.w s.heap.objs.size [(st, ka, none)])) := fun d ys e => b d _ (fun z => by rw [z, hp2] at e; cases e) e
    refine ⟨.ref s.heap.objs.size, _, d_write I2 (by rw [hp2]; exact True.intro) hs ⟨qo, hq⟩ (fph_ok (xs := [(st, ka, none)]) ⟨hd, qo, es', ep, hq, h2, h3, h4, h5⟩), rfl, q2 _ b ⟨upd_same, fun x hx => ?_⟩⟩
    rw [List.mem_singleton] at hx; subst hx
    exact hst.mono tp
end
end K3
namespace K3
open PySem PySem.Spec PyProof.Rows L2
section
variable {P : Program} {w : World} {K : PySem.W.Frag} {mg : Str → Option Value} {base : Heap} {C : Addr}
/-! ### copied_program, of a list -/
def spCop : Sp := fun vs H Q _ => ∃ (a : Addr) (xs : List V), vs = [.ref a] ∧ H a = some (.lst xs) ∧ ∀ l H', H l = none → Same H H' → H' l = some (.lst xs) → Q (.ref l) H'
theorem scCop : FnScope ["program"] ["program"] (defScope sCopied) := ⟨rfl, rfl, rfl, by decide +kernel, rfl, by decide +kernel, by decide +kernel⟩
theorem ok_cop {f : Addr} {fd : FuncData} (F : Fun K "copied_program" "copied_program" sCopied f fd) (T : Txt K mg) : FnOk P w K mg base CX0 1 f fd ["program"] spCop := by
  refine F.ok scCop (fun vs H Q E h => ?_) (fun cdv A outer s H vs Q E hr h => ?_)
  · obtain ⟨a, xs, rfl, _⟩ := h
    rfl
  · obtain ⟨a, xs, rfl, ha, k⟩ := h
    refine ⟨_, pss_one (ps_ret (pe_ifExp (pt_val (pe_callB call_isiT (by rfl) T.isinst (by decide +kernel) (pa_cons (pv 0) (pa_cons (ptup (pa_cons (pe_bltn (v := .ty "list") (by rfl) T.list (by decide +kernel) rfl) (pa_cons (pe_bltn (v := .ty "tuple") (by rfl) T.tuple (by decide +kernel) rfl) pa_nil))) pa_nil))))
      (pe_callTy call_list_of (by rfl) T.list (by decide +kernel) (pa_cons (pv 0) pa_nil)) (pv 0))), ?_⟩
    refine ⟨_, rfl, ?_⟩
    refine rd_t2 fun t H1 s1 ht => ?_
    refine ⟨.ref a, t, _, .type "list", [.type "list", .type "tuple"], true, rfl, ht, .cons (.ty "list") (.cons (.ty "tuple") .nil), .base (.lst (s1 _ _ ha)), kitAny_cons (b := true) (kit_ty (by decide +kernel)) (fun z => nomatch z) (fun _ => rfl), true, rfl, ?_⟩
    refine iteT ?_
    refine ⟨_, rfl, a, xs, rfl, .inl (SqL.of (s1 _ _ ha)), fun l hl => ?_⟩
    have nl : H l = none := by
      cases e : H l with
      | none => rfl
      | some o => rw [s1 _ _ e] at hl; cases hl
    exact k l _ nl (s1.trans (same_upd hl)) upd_same
/-! ### Wrong.__init__, Right.__init__ -/
structure TxtO (K : PySem.W.Frag) (mg : Str → Option Value) (C : Addr) (x f : Str) : Prop where
  cl : Cls K C
  na : NoAttr K C f
  mgC : mg x = some (.ref C)
def spWInit (C : Addr) : Sp := fun vs H Q _ => ∃ (p dx a : Addr) (xs : List V), vs = [.ref p, .ref a] ∧ H p = some (.ins C dx []) ∧ H a = some (.lst xs) ∧ ∀ H' l, But p H H' → H p ≠ none → H' p = some (.ins C dx [("program", .ref l)]) → H' l = some (.lst xs) → Q .non H'
theorem scWInit : FnScope ["self", "program"] ["self", "program"] (defScope sWInit) := ⟨rfl, rfl, rfl, by decide +kernel, rfl, by decide +kernel, by decide +kernel⟩
theorem ok_wInit {f fc : Addr} {fd fdc : FuncData} (F : Fun K "__init__" "Wrong.__init__" sWInit f fd) (TC : TxtO K mg C "Wrong" "program") (DC : Dfn P w K mg base "copied_program" 1 ["program"] spCop fc fdc) : FnOk P w K mg base CX0 2 f fd ["self", "program"] (spWInit C) := by
  refine F.ok scWInit (fun vs H Q E h => ?_) (fun cdv A outer s H vs Q E hr h => ?_)
  · obtain ⟨p, dx, a, xs, rfl, _⟩ := h
    rfl
  · obtain ⟨p, dx, a, xs, rfl, hp, ha, k⟩ := h
    refine ⟨_, pss_one (ps_fld (pv 0) (pcl DC hr (pa_cons (pv 1) pa_nil)) rfl), ?_⟩
    refine ⟨_, rfl, a, xs, rfl, ha, fun l H1 nl s1 hl => ?_⟩
    refine ⟨_, rfl, p, C, dx, [], rfl, s1 _ _ hp, TC.cl, TC.na, (by show 0 < 1000; decide), ?_⟩
    have npl : l ≠ p := fun z => by rw [z, hp] at nl; cases nl
    refine k _ l (fun b o n e => ?_) (by rw [hp]; intro z; cases z) upd_same (by rw [upd_ne npl]; exact hl)
    rw [upd_ne n]; exact s1 _ _ e
def spRInit (C : Addr) : Sp := fun vs H Q _ => ∃ (p dx a : Addr) (xs : List V), vs = [.ref p, .ref a] ∧ H p = some (.ins C dx []) ∧ H a = some (.lst xs) ∧ ∀ H' l, But p H H' → H' p = some (.ins C dx [("standings", .ref l)]) → H' l = some (.lst xs) → Q .non H'
theorem scRInit : FnScope ["self", "standings"] ["self", "standings"] (defScope sRInit) := ⟨rfl, rfl, rfl, by decide +kernel, rfl, by decide +kernel, by decide +kernel⟩
theorem ok_rInit {f : Addr} {fd : FuncData} (F : Fun K "__init__" "Right.__init__" sRInit f fd) (T : Txt K mg) (TC : TxtO K mg C "Right" "standings") : FnOk P w K mg base CX0 1 f fd ["self", "standings"] (spRInit C) := by
  refine F.ok scRInit (fun vs H Q E h => ?_) (fun cdv A outer s H vs Q E hr h => ?_)
  · obtain ⟨p, dx, a, xs, rfl, _⟩ := h
    rfl
  · obtain ⟨p, dx, a, xs, rfl, hp, ha, k⟩ := h
    refine ⟨_, pss_one (ps_fld (pv 0) (pe_callTy call_list_of (by rfl) T.list (by decide +kernel) (pa_cons (pv 1) pa_nil)) rfl), ?_⟩
    refine ⟨_, rfl, a, xs, rfl, .inl (SqL.of ha), fun l hl => ?_⟩
    have npl : p ≠ l := fun z => by rw [← z, hp] at hl; cases hl
    refine ⟨_, rfl, p, C, dx, [], rfl, (by rw [upd_ne npl]; exact hp), TC.cl, TC.na, (by show 0 < 1000; decide), ?_⟩
    refine k _ l (fun b o n e => ?_) upd_same (by rw [upd_ne npl.symm]; exact upd_same)
    rw [upd_ne n, upd_ne (ne_of_none e hl)]; exact e
/-! ### their truth -/
def spTruth (b : Bool) : Sp := fun vs H Q _ => ∃ v, vs = [v] ∧ Q (.bl b) H
theorem scRBool : FnScope ["self"] ["self"] (defScope sRBool) := ⟨rfl, rfl, rfl, by decide +kernel, rfl, by decide +kernel, by decide +kernel⟩
theorem ok_rBool {f : Addr} {fd : FuncData} (F : Fun K "__bool__" "Right.__bool__" sRBool f fd) : FnOk P w K mg base CX0 1 f fd ["self"] (spTruth true) := by
  refine F.ok scRBool (fun vs H Q E h => ?_) (fun cdv A outer s H vs Q E hr h => ?_)
  · obtain ⟨v, rfl, _⟩ := h
    rfl
  · obtain ⟨v, rfl, k⟩ := h
    exact ⟨_, pss_one (ps_ret pe_bl), k⟩
theorem scWBool : FnScope ["self"] ["self"] (defScope sWBool) := ⟨rfl, rfl, rfl, by decide +kernel, rfl, by decide +kernel, by decide +kernel⟩
theorem ok_wBool {f : Addr} {fd : FuncData} (F : Fun K "__bool__" "Wrong.__bool__" sWBool f fd) : FnOk P w K mg base CX0 1 f fd ["self"] (spTruth false) := by
  refine F.ok scWBool (fun vs H Q E h => ?_) (fun cdv A outer s H vs Q E hr h => ?_)
  · obtain ⟨v, rfl, _⟩ := h
    rfl
  · obtain ⟨v, rfl, k⟩ := h
    exact ⟨_, pss_one (ps_ret pe_bl), k⟩
end
end K3
namespace K3
open PySem PySem.Spec PyProof.Rows L2
/-! ### what led to each standing first -/
abbrev Sg := List (List E)
abbrev Pe := Sg × Option (Sg × Ins)
def FeAt (H : Hp) (q : Fe) (e : Pe) : Prop := q.1 = e.1 ∧ match q.2.2, e.2 with
  | none, none => True
  | some va, some (st', i) => ∃ vs vi, H va = some (.tup [vs, vi]) ∧ StAt H vs st' ∧ InAt H vi i
  | _, _ => False
theorem FeAt.mono {H H' : Hp} (t : Tups H H') {q : Fe} {e : Pe} (h : FeAt H q e) : FeAt H' q e := by
  obtain ⟨h1, h2⟩ := h
  refine ⟨h1, ?_⟩
  obtain ⟨q1, q2, q3⟩ := q
  obtain ⟨e1, e2⟩ := e
  cases q3 with
  | none => cases e2 with
    | none => exact True.intro
    | some r => exact h2.elim
  | some va => cases e2 with
    | none => exact h2.elim
    | some r =>
      obtain ⟨vs, vi, a, b, c⟩ := h2
      exact ⟨vs, vi, t _ _ a, b.mono t, c.mono t⟩
def FsOk (H : Hp) : List Fe → List Pe → Prop
  | [], [] => True
  | q :: xs, e :: fs => FeAt H q e ∧ FsOk H xs fs
  | _, _ => False
theorem FsOk.mono {H H' : Hp} (t : Tups H H') : ∀ {xs : List Fe} {fs : List Pe}, FsOk H xs fs → FsOk H' xs fs
  | [], [], _ => True.intro
  | _ :: _, _ :: _, ⟨h1, h2⟩ => ⟨h1.mono t, FsOk.mono t h2⟩
  | [], _ :: _, h => h.elim
  | _ :: _, [], h => h.elim
theorem FsOk.snoc {H : Hp} : ∀ {xs : List Fe} {fs : List Pe} {q : Fe} {e : Pe}, FsOk H xs fs → FeAt H q e → FsOk H (xs ++ [q]) (fs ++ [e])
  | [], [], _, _, _, h => ⟨h, True.intro⟩
  | _ :: _, _ :: _, _, _, ⟨h1, h2⟩, h => ⟨h1, FsOk.snoc h2 h⟩
  | [], _ :: _, _, _, h, _ => h.elim
  | _ :: _, [], _, _, h, _ => h.elim
def lk (fs : List Pe) (st : Sg) : Option (Option (Sg × Ins)) := (fs.find? fun e => decide (e.1 = st)).map (·.2)
theorem FsOk.get {H : Hp} {st : Sg} : ∀ {xs : List Fe} {fs : List Pe}, FsOk H xs fs → (lk fs st = none → atKey (xs.map fx) (keySt st) = none) ∧
    ∀ r, lk fs st = some r → ∃ q ∈ xs, atKey (xs.map fx) (keySt st) = some (q.2.1, fU q.2.2) ∧ FeAt H q (st, r)
  | [], [], _ => ⟨fun _ => rfl, fun r h => by cases h⟩
  | q :: xs, e :: fs, ⟨h1, h2⟩ => by
    obtain ⟨ih1, ih2⟩ := FsOk.get (st := st) h2
    by_cases he : e.1 = st
    · have hl : lk (e :: fs) st = some e.2 := by
        unfold lk; rw [List.find?_cons_of_pos (by rw [he]; exact decide_eq_true rfl)]; rfl
      have ha : atKey ((q :: xs).map fx) (keySt st) = some (q.2.1, fU q.2.2) := by
        unfold atKey
        rw [List.map_cons, List.find?_cons_of_pos (by
          show decide (keySt q.1 = keySt st) = true
          rw [h1.1, he]; exact decide_eq_true rfl)]
        rfl
      refine ⟨fun z => (by rw [hl] at z; cases z), fun r hr => ⟨q, List.mem_cons_self, ha, ?_⟩⟩
      rw [hl] at hr
      cases hr
      rw [← he]
      exact h1
    · have hl : lk (e :: fs) st = lk fs st := by
        unfold lk; rw [List.find?_cons_of_neg (by rw [decide_eq_false he]; exact Bool.false_ne_true)]
      have ha : atKey ((q :: xs).map fx) (keySt st) = atKey (xs.map fx) (keySt st) := by
        unfold atKey
        rw [List.map_cons, List.find?_cons_of_neg (by
          show ¬ decide (keySt q.1 = keySt st) = true
          rw [h1.1, decide_eq_false (fun z => he (keySt_inj z))]; exact Bool.false_ne_true)]
      rw [hl, ha]
      exact ⟨ih1, fun r hr => let ⟨q', hq, h3, h4⟩ := ih2 r hr; ⟨q', List.mem_cons_of_mem _ hq, h3, h4⟩⟩
  | [], _ :: _, h => h.elim
  | _ :: _, [], h => h.elim
/-- the program that leads to a standing, the last instruction first -/
def backF (fs : List Pe) : Nat → Sg → Option (List Ins)
  | 0, _ => none
  | n + 1, st => match lk fs st with
    | some none => some []
    | some (some (st', i)) => (backF fs n st').map (i :: ·)
    | none => none
theorem rd_fin {P : Program} {w : World} {H : Hp} {x : V} {c : Addr} {xs : List Fe} {st : Sg} {Q : VK} (hc : FoundAt P w H c xs) (he : StAt H x st) (k : Q (.bl (atKey (xs.map fx) (keySt st)).isSome) H) : rFIn P w x (.ref c) H Q := by
  unfold rFIn
  exact ⟨c, xs, st, rfl, hc, he, k⟩
theorem rd_fget {P : Program} {w : World} {H : Hp} {y : V} {c : Addr} {xs : List Fe} {st : Sg} {q : Fe} {Q : VK} (hc : FoundAt P w H c xs) (he : StAt H y st) (ha : atKey (xs.map fx) (keySt st) = some (q.2.1, fU q.2.2)) (k : Q (fV q.2.2) H) : rFGet P w (.ref c) y H Q := by
  unfold rFGet
  exact ⟨c, st, xs, q, rfl, hc, he, ha, k⟩
section
variable {P : Program} {w : World} {K : PySem.W.Frag} {mg : Str → Option Value} {base : Heap} {C : Addr}
/-! ### program_to -/
def spPTo (P : Program) (w : World) : Sp := fun vs H Q _ => ∃ (c : Addr) (v : V) (xs : List Fe) (fs : List Pe) (st : Sg) (n : Nat) (is : List Ins), vs = [.ref c, v] ∧ FoundAt P w H c xs ∧ FsOk H xs fs ∧ StAt H v st ∧ backF fs n st = some is ∧ is.length ≤ 1000 ∧
  ∀ r H', H r = none → Same H H' → ProgAt H' r is.reverse → Q (.ref r) H'
abbrev nPTo : List Str := ["found", "standing", "program", "instruction"]
theorem scPTo : FnScope nPTo ["found", "standing"] (defScope sProgTo) := ⟨rfl, rfl, rfl, by decide +kernel, rfl, by decide +kernel, by decide +kernel⟩
theorem ok_pTo {f : Addr} {fd : FuncData} (F : Fun K "program_to" "program_to" sProgTo f fd) : FnOk P w K mg base CX0 1 f fd ["found", "standing"] (spPTo P w) := by
  refine F.ok scPTo (fun vs H Q E h => ?_) (fun cdv A outer s H vs Q E hr h => ?_)
  · obtain ⟨c, v, xs, fs, st, n, is, rfl, _⟩ := h
    rfl
  · obtain ⟨c, v, xs, fs, st, n, is, rfl, hc, hfs, hst, hb, hlen, k⟩ := h
    have nd := scPTo.nd
    refine ⟨_, pss_cons (ps_set (i := 2) nd rfl (.inl rfl) (plst pa_nil))
      (pss_cons (ps_while PassesOwn.never (pt_cmpR op_notN (pe_ix (ix_f P w hr.units) (pv 0) (pv 1) (fun _ _ => rfl)) pe_non (nomark _))
        (pss_cons (ps_asg (pe_ix (ix_f P w hr.units) (pv 0) (pv 1) (fun _ _ => rfl)) (pg_tup (by rfl) (pgs_cons (pg_name (i := 1) nd rfl (.inl rfl)) (pgs_cons (pg_name (i := 3) nd rfl (.inl rfl)) pgs_nil))))
        (pss_one (ps_expr (pe_bm PySem.F.plainAttrs_list PySem.F.slot_list_append PySem.F.type_list_append mt_append (pv 2) (pa_cons (pv 3) pa_nil))))))
      (pss_one (ps_ret (pe_revL (pv 2))))), ?_⟩
    refine rd_l0 fun D H1 nD s1 hD => ?_
    refine ⟨fun m σ' H' => ∃ (st1 : Sg) (v1 : V) (v3 : Option V) (acc : List V) (done rest : List Ins), backF fs m st1 = some rest ∧ is = done ++ rest ∧ σ' = [some (.ref c), some v1, some (.ref D), v3] ∧ Same H H' ∧ H' D = some (.lst acc) ∧ Al (InAt H') acc done ∧ StAt H' v1 st1,
      ⟨n, st, v, none, [], [], is, hb, rfl, rfl, s1, hD, Al.nil, hst.mono s1.tups⟩, ?_⟩
    rintro m σ' H' ⟨st1, v1, v3, acc, done, rest, hb1, hdr, rfl, sH, hD', hal, hst1⟩
    have hc' : FoundAt P w H' c xs := hc.but (by rw [hc.at_]; exact sH _ _ hc.at_) sH.tups
    have hfs' := hfs.mono sH.tups
    cases m with
    | zero => cases hb1
    | succ m =>
    unfold backF at hb1
    cases hl : lk fs st1 with
    | none => rw [hl] at hb1; cases hb1
    | some r =>
      rw [hl] at hb1
      obtain ⟨q, hq, hat, hfe⟩ := (FsOk.get hfs').2 r hl
      refine ⟨_, rfl, _, rfl, ?_⟩
      refine rd_fget hc' hst1 hat ?_
      refine ⟨rfl, _, rfl, ?_⟩
      obtain ⟨q1, q2, q3⟩ := q
      obtain ⟨e1, e2⟩ := hfe
      cases q3 with
      | none =>
        cases r with
        | some r => exact e2.elim
        | none =>
          cases hb1
          refine iteF ?_
          rw [List.append_nil] at hdr
          subst hdr
          refine ⟨_, rfl, D, acc, rfl, SqL.of hD', fun p np => ?_⟩
          have sp := same_upd (o := HO.lst acc.reverse) np
          refine k p _ ?_ (sH.trans sp) ⟨_, upd_same, ?_⟩
          · cases e : H p with
            | none => rfl
            | some o => rw [sH _ _ e] at np; cases np
          · refine ⟨by rw [List.length_reverse, List.length_reverse, hal.1], fun j x d hx hd => ?_⟩
            have hj1 : j < acc.reverse.length := (List.getElem?_eq_some_iff.mp hx).1
            rw [List.length_reverse] at hj1
            rw [List.getElem?_reverse hj1] at hx
            rw [List.getElem?_reverse (by rw [← hal.1]; exact hj1), ← hal.1] at hd
            exact (hal.2 _ x d hx hd).mono sp.tups
      | some va =>
        cases r with
        | none => exact e2.elim
        | some r =>
          obtain ⟨st2, i⟩ := r
          obtain ⟨vs, vi, hva, hvs, hvi⟩ := e2
          obtain ⟨rest', hb2, rfl⟩ := Option.map_eq_some_iff.mp hb1
          refine iteT ⟨fun σ4 G4 => ∃ (v1' : V) (v3' : Option V) (acc' : List V), σ4 = [some (.ref c), some v1', some (.ref D), v3'] ∧ Same H G4 ∧ G4 D = some (.lst acc') ∧ Al (InAt G4) acc' (done ++ [i]) ∧ StAt G4 v1' st2, fun σ4 G4 hN => ?_, ?_⟩
          · obtain ⟨v1', v3', acc', rfl, s4, hD4, hal4, hst4⟩ := hN
            exact ⟨m, by omega, st2, v1', v3', acc', done ++ [i], rest', hb2, by rw [hdr, List.append_assoc]; rfl, rfl, s4, hD4, hal4, hst4⟩
          · refine ⟨_, rfl, _, rfl, ?_⟩
            refine rd_fget hc' hst1 hat ?_
            refine ⟨va, _, rfl, SqT.of hva, rfl, _, _, rfl, _, _, rfl, rfl, ?_⟩
            have nDH : H D = none := nD
            have hln : acc.length ≤ 1000 := by
              rw [hal.1]
              have := congrArg List.length hdr
              rw [List.length_append] at this
              omega
            refine ⟨_, rfl, .inl ⟨rfl, _, SqL.of hD'⟩, _, rfl, D, acc, _, rfl, rfl, hD', szl (by omega), ?_⟩
            have tp : Tups H' (upd H' D (.lst (acc ++ [vi]))) := tups_lst hD'
            exact ⟨vs, some vi, acc ++ [vi], rfl, sH.mut nDH, upd_same, Al.snoc (hal.mono fun _ _ z => InAt.mono tp z) (InAt.mono tp hvi), hvs.mono tp⟩
end
end K3
namespace K3
open PySem PySem.Spec PyProof.Rows L2
/-! ### judge_pipe -/
/-- what comes of a standing: a program that is wrong, or all that is found -/
def visitF (ti : PI0) (st : Sg) : List Pe → List Ins → Option (List Ins ⊕ List Pe)
  | fs, [] => some (.inr fs)
  | fs, i :: is => match stepS ti st i with
    | none => none
    | some (_, b, s') => if decide (200 ≤ fs.length) then none else
      if (lk fs s').isSome && b then visitF ti st fs is
      else match endsS ti.ks s' with
        | none => none
        | some e => if !b || !e then (backF fs 60 st).map fun l => .inl (l.reverse ++ [i])
          else visitF ti st (fs ++ [(s', some (st, i))]) is
def judgeF (ti : PI0) (inss : List Ins) : Nat → Nat → List Pe → Option (List Ins ⊕ List Pe)
  | 0, _, _ => none
  | n + 1, at_, fs => match fs[at_]? with
    | none => some (.inr fs)
    | some e => match visitF ti e.1 fs inss with
      | some (.inr fs') => judgeF ti inss n (at_ + 1) fs'
      | r => r
theorem stepS_len {ti : PI0} {st : Sg} {i : Ins} {n : Nat} {b : Bool} {s' : Sg} (h : stepS ti st i = some (n, b, s')) : s'.length ≤ 4 := by
  obtain ⟨s, _, _, hn⟩ := stepS_some h
  obtain ⟨_, _, okP, _, rfl⟩ := nextS_some hn
  rw [List.length_map]
  exact okSt.len okP
theorem backF_len {fs : List Pe} : ∀ {n : Nat} {st : Sg} {l : List Ins}, backF fs n st = some l → l.length ≤ n
  | 0, _, _, h => by cases h
  | n + 1, st, l, h => by
    unfold backF at h
    cases h1 : lk fs st with
    | none => rw [h1] at h; cases h
    | some r =>
      rw [h1] at h
      cases r with
      | none => cases h; exact Nat.zero_le _
      | some q =>
        obtain ⟨l', h2, rfl⟩ := Option.map_eq_some_iff.mp h
        have := backF_len h2
        rw [List.length_cons]; omega
theorem lk_at {H : Hp} {st : Sg} {xs : List Fe} {fs : List Pe} (h : FsOk H xs fs) : (atKey (xs.map fx) (keySt st)).isSome = (lk fs st).isSome := by
  cases hl : lk fs st with
  | none => rw [(FsOk.get h).1 hl]; rfl
  | some r =>
    obtain ⟨q, _, ha, _⟩ := (FsOk.get h).2 r hl
    rw [ha]; rfl
theorem rd_fset {P : Program} {w : World} {H : Hp} {i v : V} {c va : Addr} {xs : List Fe} {st : Sg} {Q : Hp → Prop} (hc : FoundAt P w H c xs) (he : StAt H i st) (hn : atKey (xs.map fx) (keySt st) = none) (hl : xs.length ≤ 100000) (ev : v = .ref va)
    (k : ∀ H' a, i = .ref a → But c H H' → FoundAt P w H' c (xs ++ [(st, a, some va)]) → Q H') : rFSet P w (.ref c) i v H Q := by
  unfold rFSet
  subst ev
  obtain ⟨a, ys, rfl, h1⟩ := id he
  exact ⟨c, a, va, st, xs, rfl, rfl, rfl, hc, he, hn, hl, fun H' b f => k H' a rfl b f⟩
section
variable {P : Program} {w : World} {K : PySem.W.Frag} {mg : Str → Option Value} {base : Heap} {C CW CR : Addr}
/-- what a list of instructions is told to be -/
def spInsD (C : Addr) (ti : PI0) (inss : List Ins) : Sp := fun vs H Q _ => ∃ (p kdA c : Addr), vs = [.ref p] ∧ PipeAt C H p kdA c ti ∧ KdD H kdA ti.ks ∧ ∀ r H', H r = none → Same H H' → ProgAt H' r inss → Q (.ref r) H'
/-- a Wrong, a Right -/
def JAt (CW CR : Addr) (H : Hp) (p : Addr) : List Ins ⊕ List Pe → Prop
  | .inl is => ∃ dx l, H p = some (.ins CW dx [("program", .ref l)]) ∧ ProgAt H l is
  | .inr fs => ∃ dx l zs, H p = some (.ins CR dx [("standings", .ref l)]) ∧ H l = some (.lst zs) ∧ Al (StAt H) zs (fs.map (·.1))
/-- what stands while a pipe is judged: all but c as before, the dict fA, the list B, the instructions rI -/
structure JInv (P : Program) (w : World) (ks : KT) (c fA B rI : Addr) (yI : List V) (inss : List Ins) (H H' : Hp) (xs' : List Kp) (xsF : List Fe) (fs : List Pe) (zs : List V) : Prop where
  bt : But c H H'
  hc : CacheAt P w ks H' c xs'
  hf : FoundAt P w H' fA xsF
  hfs : FsOk H' xsF fs
  hB : H' B = some (.lst zs)
  hal : Al (StAt H') zs (fs.map (·.1))
  hI : H' rI = some (.lst yI)
  hA : Al (InAt H') yI inss
theorem JInv.same {P : Program} {w : World} {ks : KT} {c fA B rI : Addr} {yI : List V} {inss : List Ins} {H H' H'' : Hp} {xs' : List Kp} {xsF : List Fe} {fs : List Pe} {zs : List V} (j : JInv P w ks c fA B rI yI inss H H' xs' xsF fs zs) (s : Same H' H'') : JInv P w ks c fA B rI yI inss H H'' xs' xsF fs zs :=
  ⟨j.bt.trans (s.but c), j.hc.same s, j.hf.but (by rw [j.hf.at_]; exact s _ _ j.hf.at_) s.tups, j.hfs.mono s.tups, s _ _ j.hB, j.hal.mono fun _ _ => StAt.mono s.tups, s _ _ j.hI, j.hA.mono fun _ _ => InAt.mono s.tups⟩
theorem JInv.fol {P : Program} {w : World} {ks : KT} {c fA B rI : Addr} {yI : List V} {inss : List Ins} {H H' H'' : Hp} {xs' xs2 : List Kp} {xsF : List Fe} {fs : List Pe} {zs : List V} (j : JInv P w ks c fA B rI yI inss H H' xs' xsF fs zs) (b : But c H' H'') (h2 : CacheAt P w ks H'' c xs2) (nf : fA ≠ c) (nB : B ≠ c) (nI : rI ≠ c) : JInv P w ks c fA B rI yI inss H H'' xs2 xsF fs zs :=
  ⟨j.bt.trans b, h2, j.hf.but (by rw [j.hf.at_]; exact b _ _ nf j.hf.at_) (but_tups j.hc b), j.hfs.mono (but_tups j.hc b), b _ _ nB j.hB, j.hal.mono fun _ _ => StAt.mono (but_tups j.hc b), b _ _ nI j.hI, j.hA.mono fun _ _ => InAt.mono (but_tups j.hc b)⟩
def begin_ (ti : PI0) : List Pe := [(List.replicate ti.regs.toNat [("", 0, [])], none)]
def spJudge (P : Program) (w : World) (C CW CR : Addr) (ti : PI0) (inss : List Ins) : Sp := fun vs H Q _ => ∃ (p kdA c : Addr) (xs : List Kp) (r : List Ins ⊕ List Pe), vs = [.ref p] ∧ PipeAt C H p kdA c ti ∧ KdD H kdA ti.ks ∧ CacheAt P w ti.ks H c xs ∧ 1 ≤ ti.regs ∧ ti.regs ≤ 4 ∧ inss.length ≤ 2 ∧ xs.length ≤ 50000 ∧
  judgeF ti inss 6 0 (begin_ ti) = some r ∧ ∀ (q : Addr) H' xs', But c H H' → CacheAt P w ti.ks H' c xs' → xs'.length ≤ xs.length + 50 * 2 * 6 → JAt CW CR H' q r → Q (.ref q) H'
abbrev nJ : List Str := ["pipe", "instructions", "found", "standings", "at", "standing", "instruction", "_", "reads", "behind"]
theorem scJ : FnScope nJ ["pipe"] (defScope sJudge) := ⟨rfl, rfl, rfl, by decide +kernel, rfl, by decide +kernel, by decide +kernel⟩
theorem ok_judge {ti : PI0} {inss : List Ins} {f fN fI fS fF fE fP fW fR : Addr} {fd fdN fdI fdS fdF fdE fdP fdW fdR : FuncData} (F : Fun K "judge_pipe" "judge_pipe" sJudge f fd) (T : Txt K mg) (TC : TxtC K mg C)
    (TW : TxtO K mg CW "Wrong" "program") (TR : TxtO K mg CR "Right" "standings")
    (DN : Dfn P w K mg base "need_pipe" 1 ["pipe"] (spNeed C) fN fdN) (DI : Dfm P w K mg base C "instructions" 1 ["self"] (spInsD C ti inss) fI fdI) (DS : Dfm P w K mg base C "start" 1 ["self"] (spStart C ti) fS fdS)
    (DF : Dfm P w K mg base C "follow" 4 ["self", "standing", "instruction"] (spFollow P w C ti) fF fdF) (DE : Dfm P w K mg base C "ends_right" 4 ["self", "standing"] (spEnds C ti) fE fdE)
    (DP : Dfn P w K mg base "program_to" 1 ["found", "standing"] (spPTo P w) fP fdP)
    (MW : Mk K CW fW) (FW : FnOk P w K mg base CX0 2 fW fdW ["self", "program"] (spWInit CW)) (bW : Binds K fdW ["self", "program"] [])
    (MR : Mk K CR fR) (FR : FnOk P w K mg base CX0 1 fR fdR ["self", "standings"] (spRInit CR)) (bR : Binds K fdR ["self", "standings"] []) :
    FnOk P w K mg base CX0 5 f fd ["pipe"] (spJudge P w C CW CR ti inss) := by
  refine F.ok scJ (fun vs H Q E h => ?_) (fun cdv A outer s H vs Q E hr h => ?_)
  · obtain ⟨p, kdA, c, xs, r, rfl, _⟩ := h
    rfl
  · obtain ⟨p, kdA, c, xs, r, rfl, hpipe, hkdD, hc, r1, r4, hil, hxs, hJ, k⟩ := h
    have hkd := hkdD.kd
    have nd := scJ.nd
    have hr1 : Room 1 _ := hr.mono (by decide)
    have hr2 : Room 2 _ := hr.mono (by decide)
    have hr3 : Room 3 _ := hr.mono (by decide)
    refine ⟨_, pss_cons (ps_expr (pcl DN hr1 (pa_cons (pv 0) pa_nil)))
      (pss_cons (ps_set (i := 1) nd rfl (.inl rfl) (pe_meth0 (pv 0) TC.cl DI.meth DI.ok hr1 DI.b .nil pass0))
      (pss_cons (ps_set (i := 2) nd rfl (.inl rfl) (pe_disp1 P w hr.units (pe_meth0 (pv 0) TC.cl DS.meth DS.ok hr1 DS.b .nil pass0) pe_non))
      (pss_cons (ps_set (i := 3) nd rfl (.inl rfl) (pe_callTy (call_listF P w (by rfl)) (by rfl) T.list (by decide +kernel) (pa_cons (pv 2) pa_nil)))
      (pss_cons (ps_set (i := 4) nd rfl (.inl rfl) pe_int)
      (pss_cons (ps_while PassesOwn.never (pt_cmpR op_lt (pv 4) (pe_callB call_len_seq (by rfl) T.len (by decide +kernel) (pa_cons (pv 3) pa_nil)) (nomark _))
        (pss_cons (ps_set (i := 5) nd rfl (.inl rfl) (pe_ix (ixL K) (pv 3) (pv 4) (fun _ _ => rfl)))
        (pss_cons (ps_aug (i := 4) nd rfl (.inl rfl) pe_int ip_add)
        (pss_one (ps_for PassesOwn.never rfl (pi_list (pv 1)) (pg_name (i := 6) nd rfl (.inl rfl))
          (pss_cons (ps_asg (pe_meth (pv 0) TC.cl DF.meth DF.ok hr DF.b .nil pass0 (pa_cons (pv 5) (pa_cons (pv 6) pa_nil))) (pg_tup (by rfl) (pgs_cons (pg_name (i := 7) nd rfl (.inl rfl)) (pgs_cons (pg_name (i := 8) nd rfl (.inl rfl)) (pgs_cons (pg_name (i := 9) nd rfl (.inl rfl)) pgs_nil)))))
          (pss_cons (ps_if (PW.pt (pw_and (pt_cmpR (op_fin P w hr.units) (pv 9) (pv 2) (by rfl)) (pw_and1 (pt_val (pv 8))))) (pss_one ps_continue) pss_nil)
          (pss_cons (ps_if (PW.pt (pw_or (pt_not (pt_val (pv 8))) (pw_or1 (pt_not (pt_val (pe_meth (pv 0) TC.cl DE.meth DE.ok hr DE.b .nil pass0 (pa_cons (pv 9) pa_nil)))))))
            (pss_one (ps_ret (pe_make MW FW hr3 (by rfl) TW.mgC bW .nil pass0 (pa_cons (pe_op op_cat (pcl DP hr1 (pa_cons (pv 2) (pa_cons (pv 5) pa_nil))) (plst (pa_cons (pv 6) pa_nil))) pa_nil)))) pss_nil)
          (pss_cons (ps_asg (ptup (pa_cons (pv 5) (pa_cons (pv 6) pa_nil))) (pg_sub (pv 2) (pv 9) (set_f P w hr.units)))
          (pss_one (ps_expr (pe_bm PySem.F.plainAttrs_list PySem.F.slot_list_append PySem.F.type_list_append mt_append (pv 3) (pa_cons (pv 9) pa_nil)))))))))))))
      (pss_one (ps_ret (pe_make MR FR hr2 (by rfl) TR.mgC bR .nil pass0 (pa_cons (pv 3) pa_nil))))))))), ?_⟩
    obtain ⟨dx, hp⟩ := id hpipe
    have nm1 : (pfl ti.regs kdA ti.ho ti.od c).lookup ("instructions" : Str) = none := pfl_m (by decide +kernel) (by decide +kernel) (by decide +kernel) (by decide +kernel) (by decide +kernel)
    have nm2 : (pfl ti.regs kdA ti.ho ti.od c).lookup ("start" : Str) = none := pfl_m (by decide +kernel) (by decide +kernel) (by decide +kernel) (by decide +kernel) (by decide +kernel)
    have nm3 : (pfl ti.regs kdA ti.ho ti.od c).lookup ("follow" : Str) = none := pfl_m (by decide +kernel) (by decide +kernel) (by decide +kernel) (by decide +kernel) (by decide +kernel)
    have nm4 : (pfl ti.regs kdA ti.ho ti.od c).lookup ("ends_right" : Str) = none := pfl_m (by decide +kernel) (by decide +kernel) (by decide +kernel) (by decide +kernel) (by decide +kernel)
    refine ⟨_, rfl, p, dx, _, rfl, hp, ?_⟩
    refine ⟨_, rfl, p, dx, _, rfl, hp, nm1, p, kdA, c, rfl, hpipe, hkdD, fun rI H1 nI s1 hI => ?_⟩
    intro fA nF
    have sF := same_upd (o := FoundO P w fA []) nF
    have s01 := s1.trans sF
    refine ⟨_, rfl, p, dx, _, rfl, s01 _ _ hp, nm2, p, kdA, c, rfl, ⟨dx, s01 _ _ hp⟩, r1, r4, fun v0 H2 s2 hst => ?_⟩
    obtain ⟨ka, ys, rfl, hka, hall⟩ := id hst
    refine ⟨ka, _, rfl, s2 _ _ upd_same, hst, fun H3 b3 hF3 => ?_⟩
    have hf2 : H2 fA = some (FoundO P w fA []) := s2 _ _ upd_same
    have t3 : Tups H2 H3 := fun d ys e => b3 d _ (fun z => by rw [z, hf2] at e; cases e) e
    have nfH : H fA = none := s1.free nF
    have s02 := s01.trans s2
    have s03 : Same H H3 := ((s02.but fA).trans b3).same nfH
    obtain ⟨yI, hrI, halI⟩ := id hI
    have nrf : rI ≠ fA := fun z => by rw [z, nF] at hrI; cases hrI
    have hI3 : H3 rI = some (.lst yI) := b3 _ _ nrf (s2 _ _ (sF _ _ hrI))
    have hA3 : Al (InAt H3) yI inss := (halI.mono fun _ _ => InAt.mono (sF.trans s2).tups).mono fun _ _ => InAt.mono t3
    refine ⟨_, rfl, fA, _, rfl, hF3, (by show 1 ≤ 100000; decide), fun B H4 nB s4 hB => ?_⟩
    have ncf : fA ≠ c := fun z => by rw [z, hc.at_] at nfH; cases nfH
    have nBH : H B = none := s03.free nB
    have ncB : B ≠ c := fun z => by rw [z, hc.at_] at nBH; cases nBH
    have nBf : B ≠ fA := fun z => by rw [z, hF3.at_] at nB; cases nB
    have nrB : rI ≠ B := fun z => by rw [z, nB] at hI3; cases hI3
    have nrc : rI ≠ c := fun z => by rw [z, hc.at_] at nI; cases nI
    have j4 : JInv P w ti.ks c fA B rI yI inss H H4 xs [(List.replicate ti.regs.toNat [("", 0, [])], ka, none)] (begin_ ti) (fK [(List.replicate ti.regs.toNat [("", 0, [])], ka, none)]) :=
      ⟨(s03.trans s4).but c, hc.same (s03.trans s4), hF3.but (by rw [hF3.at_]; exact s4 _ _ hF3.at_) s4.tups, ⟨⟨rfl, True.intro⟩, True.intro⟩, hB, Al.one ((hst.mono t3).mono s4.tups), s4 _ _ hI3, hA3.mono fun _ _ => InAt.mono s4.tups⟩
    let σ0 : Int → Option V → Option V → Option V → Option V → Option V → L2.St := fun a v5 v6 v7 v8 v9 => [some (.ref p), some (.ref rI), some (.ref fA), some (.ref B), some (.int a), v5, v6, v7, v8, v9]
    refine ⟨fun m σ' H' => ∃ (at_ : Nat) (fs : List Pe) (xsF : List Fe) (zs : List V) (xs' : List Kp) (v5 v6 v7 v8 v9 : Option V), judgeF ti inss m at_ fs = some r ∧ σ' = σ0 at_ v5 v6 v7 v8 v9 ∧ JInv P w ti.ks c fA B rI yI inss H H' xs' xsF fs zs ∧ xsF.length = fs.length ∧ fs.length ≤ 400 ∧ xs'.length ≤ xs.length + 50 * 2 * at_ ∧ m + at_ = 6,
      ⟨6, 0, begin_ ti, _, _, xs, none, none, none, none, none, hJ, rfl, j4, rfl, (by show 1 ≤ 400; decide), by omega, rfl⟩, ?_⟩
    rintro m σ' H' ⟨at_, fs, xsF, zs, xs', v5, v6, v7, v8, v9, hJm, rfl, j, hxf, hfl, hxl, hma⟩
    have hzl : zs.length = fs.length := by rw [j.hal.1, List.length_map]
    refine ⟨_, rfl, _, rfl, B, _, rfl, .inl (SqL.of j.hB), _, _, rfl, rfl, _, rfl, ?_⟩
    cases m with
    | zero => cases hJm
    | succ m =>
    unfold judgeF at hJm
    cases he : fs[at_]? with
    | none =>
      rw [he] at hJm
      cases hJm
      have hge : fs.length ≤ at_ := List.getElem?_eq_none_iff.mp he
      rw [show decide (((at_ : Nat) : Int) < (zs.length : Int)) = false from decide_eq_false (by omega)]
      refine iteF ?_
      refine ⟨_, rfl, fun x dxx nx ndx nex => ?_⟩
      have s5 : Same H' (upd (upd H' dxx (.own x)) x (.ins CR dxx [])) := fun b o e => by
        rw [upd_ne (ne_of_none e nx), upd_ne (ne_of_none e ndx)]; exact e
      refine ⟨x, dxx, B, zs, rfl, upd_same, s5 _ _ j.hB, fun HZ l bZ hZ hl => ⟨rfl, ?_⟩⟩
      have sZ : Same H' HZ := fun b o e => bZ b o (ne_of_none e nx) (s5 b o e)
      exact k x HZ xs' (j.bt.trans (sZ.but c)) (j.hc.same sZ) (by omega) ⟨dxx, l, zs, hZ, hl, j.hal.mono fun _ _ => StAt.mono sZ.tups⟩
    | some e =>
      rw [he] at hJm
      simp only [] at hJm
      have hlt : at_ < fs.length := (List.getElem?_eq_some_iff.mp he).1
      rw [show decide (((at_ : Nat) : Int) < (zs.length : Int)) = true from decide_eq_true (by omega)]
      obtain ⟨vs, hvs, hst5⟩ := j.hal.at' (i := at_) (d := e.1) (by rw [List.getElem?_map, he]; rfl)
      cases hvz : visitF ti e.1 fs inss with
      | none => rw [hvz] at hJm; cases hJm
      | some rr =>
      rw [hvz] at hJm
      refine iteT ⟨fun σ4 G4 => ∃ (fs' : List Pe) (xsF' : List Fe) (zs' : List V) (xs2 : List Kp) (w5 w6 w7 w8 w9 : Option V), rr = .inr fs' ∧ σ4 = σ0 ((at_ + 1 : Nat) : Int) w5 w6 w7 w8 w9 ∧ JInv P w ti.ks c fA B rI yI inss H G4 xs2 xsF' fs' zs' ∧ xsF'.length = fs'.length ∧ fs'.length ≤ 400 ∧ xs2.length ≤ xs.length + 50 * 2 * (at_ + 1), fun σ4 G4 hN => ?_, ?_⟩
      · obtain ⟨fs', xsF', zs', xs2, w5, w6, w7, w8, w9, rfl, rfl, j', h1, h2, h3⟩ := hN
        exact ⟨m, by omega, at_ + 1, fs', xsF', zs', xs2, w5, w6, w7, w8, w9, hJm, rfl, j', h1, h2, h3, by omega⟩
      · refine ⟨_, rfl, _, rfl, B, _, _, _, rfl, rfl, SqL.of j.hB, atI_nat hvs, ?_⟩
        refine ⟨_, rfl, _, _, rfl, rfl, ?_⟩
        refine ⟨_, rfl, rI, rfl, ⟨_, SqL.of j.hI⟩, for_list (K := K) (xs := yI) (fun n σ4 G4 => ∃ (fs' : List Pe) (xsF' : List Fe) (zs' : List V) (xs2 : List Kp) (w6 w7 w8 w9 : Option V), visitF ti e.1 fs' (inss.drop n) = some rr ∧ σ4 = σ0 ((at_ + 1 : Nat) : Int) (some vs) w6 w7 w8 w9 ∧ JInv P w ti.ks c fA B rI yI inss H G4 xs2 xsF' fs' zs' ∧ xsF'.length = fs'.length ∧ fs'.length ≤ 400 ∧ xs2.length ≤ xs.length + 50 * 2 * at_ + 50 * n ∧ StAt G4 vs e.1)
          ⟨fs, xsF, zs, xs', v6, v7, v8, v9, by rw [List.drop_zero]; exact hvz, rfl, j, hxf, hfl, by omega, hst5⟩ (fun n σ4 G4 _ hh => by obtain ⟨_, _, _, _, _, _, _, _, _, _, j', _⟩ := hh; exact SqL.of j'.hI) ?_ ?_⟩
        · rintro n y σ4 G4 hn ⟨fs', xsF', zs', xs2, w6, w7, w8, w9, hv, rfl, j', h1, h2, h3, hst'⟩
          obtain ⟨i, hij, hy⟩ := j'.hA.at hn
          have hnl : n < inss.length := (List.getElem?_eq_some_iff.mp hij).1
          have edrop : inss.drop n = i :: inss.drop (n + 1) := by
            rw [List.drop_eq_getElem_cons hnl]
            congr 1
            rw [List.getElem?_eq_getElem hnl] at hij
            exact Option.some.inj hij
          rw [edrop] at hv
          unfold visitF at hv
          cases hstep : stepS ti e.1 i with
          | none => rw [hstep] at hv; cases hv
          | some q =>
          obtain ⟨nh, b, s'⟩ := q
          rw [hstep] at hv
          simp only [] at hv
          by_cases h200 : 200 ≤ fs'.length
          · rw [decide_eq_true h200, if_pos rfl] at hv; cases hv
          rw [decide_eq_false h200, if_neg Bool.false_ne_true] at hv
          obtain ⟨dx', hp'⟩ := but_pipe hc j'.bt hpipe
          have hkd' := but_kd hc j'.bt hkd
          refine ⟨_, rfl, p, dx', _, rfl, hp', nm3, _, rfl, _, rfl, p, kdA, c, _, _, e.1, i, xs2, nh, b, s', rfl, ⟨dx', hp'⟩, hkd', j'.hc, hst', hy, hstep, by omega, fun rt vb G5 xs5 b5 c5 l5 hrt hvb => ?_⟩
          refine ⟨rt, _, rfl, SqT.of hrt, rfl, _, _, rfl, _, _, rfl, _, _, rfl, rfl, ?_⟩
          have j5 := j'.fol b5 c5 ncf ncB nrc
          have t5 := but_tups j'.hc b5
          have hst5' := hst'.mono t5
          obtain ⟨dx5, hp5⟩ := but_pipe hc j5.bt hpipe
          have hkd5 := but_kd hc j5.bt hkd
          have hy5 := hy.mono t5
          refine ⟨_, rfl, _, rfl, ?_⟩
          refine rd_fin j5.hf hvb ?_
          refine ⟨_, rfl, ?_⟩
          rw [lk_at j5.hfs]
          have go : ∀ (u6 u7 u8 u9 : Option V), visitF ti e.1 fs' (inss.drop (n + 1)) = some rr → ∃ (fs' : List Pe) (xsF' : List Fe) (zs' : List V) (xs2 : List Kp) (w6 w7 w8 w9 : Option V), visitF ti e.1 fs' (inss.drop (n + 1)) = some rr ∧ σ0 ((at_ + 1 : Nat) : Int) (some vs) u6 u7 u8 u9 = σ0 ((at_ + 1 : Nat) : Int) (some vs) w6 w7 w8 w9 ∧ JInv P w ti.ks c fA B rI yI inss H G5 xs2 xsF' fs' zs' ∧ xsF'.length = fs'.length ∧ fs'.length ≤ 400 ∧ xs2.length ≤ xs.length + 50 * 2 * at_ + 50 * (n + 1) ∧ StAt G5 vs e.1 :=
            fun u6 u7 u8 u9 h => ⟨fs', xsF', zs', xs5, u6, u7, u8, u9, h, rfl, j5, h1, h2, by omega, hst5'⟩
          by_cases hcb : ((lk fs' s').isSome && b) = true
          · rw [if_pos hcb] at hv
            rw [Bool.and_eq_true] at hcb
            rw [hcb.1]
            refine iteT ⟨_, rfl, _, rfl, ?_⟩
            rw [hcb.2]
            exact iteT (go _ _ _ _ hv)
          · rw [if_neg hcb] at hv
            cases hE : endsS ti.ks s' with
            | none => rw [hE] at hv; cases hv
            | some eb =>
            rw [hE] at hv
            simp only [] at hv
            have hnn : lk fs' s' = none ∨ b = false := by
              cases hl : lk fs' s' with
              | none => exact .inl rfl
              | some r => cases b with
                | false => exact .inr rfl
                | true => rw [hl] at hcb; exact absurd rfl hcb
            have hs'l : s'.length ≤ 1000 := by
              obtain ⟨_, _, hz, _⟩ := id hvb
              have := (stepS_len hstep)
              omega
            cases hS : (lk fs' s').isSome with
            | true =>
              have hb : b = false := by rcases hnn with h | h; rw [h] at hS; cases hS; exact h
              subst hb
              refine iteT ⟨_, rfl, _, rfl, iteF ?_⟩
              refine ⟨_, rfl, _, rfl, ?_⟩
              refine iteT (iteT ?_)
              rw [if_pos (by rfl)] at hv
              obtain ⟨l, hbk, hrr⟩ := Option.map_eq_some_iff.mp hv
              have hll := backF_len hbk
              refine ⟨_, rfl, _, rfl, fA, vs, xsF', fs', e.1, 60, l, rfl, j5.hf, j5.hfs, hst5', hbk, by omega, fun rp G7 n7 s7 hprog => ?_⟩
              refine ⟨_, rfl, ?_⟩
              refine rd_l1 fun rq G8 n8 s8 h8 => ?_
              obtain ⟨yp, hyp, halp⟩ := hprog
              have hyl : yp.length = l.reverse.length := halp.1
              rw [List.length_reverse] at hyl
              refine ⟨_, _, _, _, rfl, rfl, s8 _ _ hyp, h8, (by rw [hyl]; exact sz (by show l.length + 1 ≤ 100000; omega)), fun p9 n9 => ?_⟩
              intro x dxx nx ndx nex
              have s9 := same_upd (o := HO.lst (yp ++ [y])) n9
              have s10 : Same (upd G8 p9 (.lst (yp ++ [y]))) (upd (upd (upd G8 p9 (.lst (yp ++ [y]))) dxx (.own x)) x (.ins CW dxx [])) := fun b o e => by
                rw [upd_ne (ne_of_none e nx), upd_ne (ne_of_none e ndx)]; exact e
              refine ⟨x, dxx, p9, _, rfl, upd_same, s10 _ _ upd_same, fun HZ lz bZ _ hZ hlz => ⟨rfl, ?_⟩⟩
              have sZ : Same (upd G8 p9 (.lst (yp ++ [y]))) HZ := fun b o e => bZ b o (ne_of_none e nx) (s10 b o e)
              have s7Z : Same G7 HZ := (s8.trans s9).trans sZ
              have sGZ : Same G5 HZ := s7.trans s7Z
              subst hrr
              cases hJm
              exact k x HZ xs5 (j5.bt.trans (sGZ.but c)) (j5.hc.same sGZ) (by omega) ⟨dxx, lz, hZ, _, hlz, Al.snoc (halp.mono fun _ _ z => InAt.mono s7Z.tups z) (hy5.mono sGZ.tups)⟩
            | false =>
              refine iteF (iteF ?_)
              refine ⟨_, rfl, _, rfl, ?_⟩
              cases b with
              | false =>
                refine iteT (iteT ?_)
                rw [if_pos (by rfl)] at hv
                obtain ⟨l, hbk, hrr⟩ := Option.map_eq_some_iff.mp hv
                have hll := backF_len hbk
                refine ⟨_, rfl, _, rfl, fA, vs, xsF', fs', e.1, 60, l, rfl, j5.hf, j5.hfs, hst5', hbk, by omega, fun rp G7 n7 s7 hprog => ?_⟩
                refine ⟨_, rfl, ?_⟩
                refine rd_l1 fun rq G8 n8 s8 h8 => ?_
                obtain ⟨yp, hyp, halp⟩ := hprog
                have hyl : yp.length = l.reverse.length := halp.1
                rw [List.length_reverse] at hyl
                refine ⟨_, _, _, _, rfl, rfl, s8 _ _ hyp, h8, (by rw [hyl]; exact sz (by show l.length + 1 ≤ 100000; omega)), fun p9 n9 => ?_⟩
                intro x dxx nx ndx nex
                have s9 := same_upd (o := HO.lst (yp ++ [y])) n9
                have s10 : Same (upd G8 p9 (.lst (yp ++ [y]))) (upd (upd (upd G8 p9 (.lst (yp ++ [y]))) dxx (.own x)) x (.ins CW dxx [])) := fun b o e => by
                  rw [upd_ne (ne_of_none e nx), upd_ne (ne_of_none e ndx)]; exact e
                refine ⟨x, dxx, p9, _, rfl, upd_same, s10 _ _ upd_same, fun HZ lz bZ _ hZ hlz => ⟨rfl, ?_⟩⟩
                have sZ : Same (upd G8 p9 (.lst (yp ++ [y]))) HZ := fun b o e => bZ b o (ne_of_none e nx) (s10 b o e)
                have s7Z : Same G7 HZ := (s8.trans s9).trans sZ
                have sGZ : Same G5 HZ := s7.trans s7Z
                subst hrr
                cases hJm
                exact k x HZ xs5 (j5.bt.trans (sGZ.but c)) (j5.hc.same sGZ) (by omega) ⟨dxx, lz, hZ, _, hlz, Al.snoc (halp.mono fun _ _ z => InAt.mono s7Z.tups z) (hy5.mono sGZ.tups)⟩
              | true =>
                refine iteF ?_
                refine ⟨_, rfl, p, dx5, _, rfl, hp5, nm4, _, rfl, p, kdA, c, _, s', eb, rfl, ⟨dx5, hp5⟩, hkd5, hvb, hs'l, hE, fun G6 s6 => ⟨_, rfl, ?_⟩⟩
                have j6 := j5.same s6
                cases eb with
                | false =>
                  refine iteT ?_
                  rw [if_pos (by rfl)] at hv
                  obtain ⟨l, hbk, hrr⟩ := Option.map_eq_some_iff.mp hv
                  have hll := backF_len hbk
                  refine ⟨_, rfl, _, rfl, fA, vs, xsF', fs', e.1, 60, l, rfl, j6.hf, j6.hfs, (hst5'.mono s6.tups), hbk, by omega, fun rp G7 n7 s7 hprog => ?_⟩
                  refine ⟨_, rfl, ?_⟩
                  refine rd_l1 fun rq G8 n8 s8 h8 => ?_
                  obtain ⟨yp, hyp, halp⟩ := hprog
                  have hyl : yp.length = l.reverse.length := halp.1
                  rw [List.length_reverse] at hyl
                  refine ⟨_, _, _, _, rfl, rfl, s8 _ _ hyp, h8, (by rw [hyl]; exact sz (by show l.length + 1 ≤ 100000; omega)), fun p9 n9 => ?_⟩
                  intro x dxx nx ndx nex
                  have s9 := same_upd (o := HO.lst (yp ++ [y])) n9
                  have s10 : Same (upd G8 p9 (.lst (yp ++ [y]))) (upd (upd (upd G8 p9 (.lst (yp ++ [y]))) dxx (.own x)) x (.ins CW dxx [])) := fun b o e => by
                    rw [upd_ne (ne_of_none e nx), upd_ne (ne_of_none e ndx)]; exact e
                  refine ⟨x, dxx, p9, _, rfl, upd_same, s10 _ _ upd_same, fun HZ lz bZ _ hZ hlz => ⟨rfl, ?_⟩⟩
                  have sZ : Same (upd G8 p9 (.lst (yp ++ [y]))) HZ := fun b o e => bZ b o (ne_of_none e nx) (s10 b o e)
                  have s7Z : Same G7 HZ := (s8.trans s9).trans sZ
                  have sGZ : Same G6 HZ := s7.trans s7Z
                  subst hrr
                  cases hJm
                  exact k x HZ xs5 (j6.bt.trans (sGZ.but c)) (j6.hc.same sGZ) (by omega) ⟨dxx, lz, hZ, _, hlz, Al.snoc (halp.mono fun _ _ z => InAt.mono s7Z.tups z) ((hy5.mono s6.tups).mono sGZ.tups)⟩
                | true =>
                  refine iteF ?_
                  rw [if_neg (by intro z; cases z)] at hv
                  refine ⟨_, rfl, _, rfl, ?_⟩
                  refine rd_t2 fun t G7 s7 ht => ?_
                  have j7 := j6.same s7
                  have vb7 := (hvb.mono s6.tups).mono s7.tups
                  have hkn : atKey (xsF'.map fx) (keySt s') = none := (FsOk.get j7.hfs).1 (by cases hl : lk fs' s' with | none => rfl | some r => rw [hl] at hS; cases hS)
                  refine ⟨_, rfl, _, rfl, ?_⟩
                  refine rd_fset j7.hf vb7 hkn (by omega) rfl fun G8 ra era b8 f8 => ?_
                  subst era
                  have t8 : Tups G7 G8 := fun d us e => b8 d _ (fun z => by rw [z, j7.hf.at_] at e; cases e) e
                  have bt8 : But c H G8 := fun q o n e => b8 q o (ne_of_none e nfH) (j7.bt q o n e)
                  have hB8 := b8 _ _ nBf j7.hB
                  refine ⟨_, rfl, .inl ⟨rfl, _, SqL.of hB8⟩, _, rfl, B, zs', _, rfl, rfl, hB8, (by have := j7.hal.1; rw [List.length_map] at this; exact szl (by omega)), ?_⟩
                  have t9 : Tups G8 (upd G8 B (.lst (zs' ++ [V.ref ra]))) := tups_lst hB8
                  have t79 : Tups G7 (upd G8 B (.lst (zs' ++ [V.ref ra]))) := t8.trans t9
                  have st7 := (hst5'.mono s6.tups).mono s7.tups
                  refine ⟨fs' ++ [(s', some (e.1, i))], xsF' ++ [(s', ra, some t)], zs' ++ [.ref ra], xs5, _, _, _, _, hv, rfl, ⟨but_mut bt8 nBH, ?_, ?_, ?_, upd_same, ?_, ?_, ?_⟩, by simp [h1], by rw [List.length_append]; show fs'.length + 1 ≤ 400; omega, by omega, st7.mono t79⟩
                  · exact ⟨by rw [upd_ne ncB.symm]; exact b8 _ _ ncf.symm j7.hc.at_, fun q hq => ⟨(j7.hc.ok q hq).1.mono t79, (j7.hc.ok q hq).2.mono t79⟩⟩
                  · exact f8.but (by rw [upd_ne nBf.symm]) t9
                  · exact FsOk.snoc (j7.hfs.mono t79) ⟨rfl, vs, y, t79 _ _ ht, st7.mono t79, ((hy5.mono s6.tups).mono s7.tups).mono t79⟩
                  · rw [List.map_append]
                    exact Al.snoc (j7.hal.mono fun _ _ => StAt.mono t79) (vb7.mono t79)
                  · rw [upd_ne nrB]; exact b8 _ _ nrf j7.hI
                  · exact j7.hA.mono fun _ _ => InAt.mono t79
        · rintro σ4 G4 ⟨fs', xsF', zs', xs2, w6, w7, w8, w9, hv, rfl, j', h1, h2, h3, hst'⟩
          have hl : yI.length = inss.length := j'.hA.1
          rw [hl, List.drop_length] at hv
          cases hv
          exact ⟨fs', xsF', zs', xs2, _, w6, w7, w8, w9, rfl, rfl, j', h1, h2, by omega⟩
end
end K3
/-! The law's own words: writers. -/
namespace K3
open PySem PySem.Spec PyProof.Rows L2
section
variable {κ : Type} [DecidableEq κ]
structure Wr (κ : Type) where
  place : Int
  kind : κ
  goal : Int
  tick : Int
deriving DecidableEq
variable (k : Kd κ)
def land (w : Wr κ) : Int := w.tick + k.len w.kind
def there (t : Int) (w : Wr κ) : Bool := decide (land k w ≤ t)
def lastStep (t : Int) (f : Option (Wr κ)) (w : Wr κ) : Option (Wr κ) :=
  if there k t w then (match f with
    | none => some w
    | some v => if land k v ≤ land k w then some w else some v) else f
def lastL (t : Int) (l : List (Wr κ)) : Option (Wr κ) := l.foldl (lastStep k t) none
def ready (t : Int) (w : Wr κ) : Bool := !there k t w && (match k.way w.kind with
  | none => false
  | some x => decide (x ≤ t - w.tick))
def readStep (t : Int) (f : Int) (w : Wr κ) : Int := if ready k t w then (if w.place > f then w.place else f) else f
def plc (o : Option (Wr κ)) : Int := match o with
  | none => -1
  | some w => w.place
def readOf (t : Int) (l : List (Wr κ)) : Int := l.foldl (readStep k t) (plc (lastL k t l))
def ordW (t n : Int) (w : Wr κ) : Bool := decide (t + n < land k w)
def srcHeld (t : Int) (l : List (Wr κ)) : Bool := match l.getLast? with
  | none => false
  | some w => !there k t w && (match k.way w.kind with
    | none => true
    | some x => decide (t - w.tick < x))
theorem readStep_eq (t f : Int) (w : Wr κ) : readStep k t f w = if ready k t w then (if w.place > f then w.place else f) else f := rfl
theorem last_from (t : Int) : ∀ (l : List (Wr κ)) (f : Option (Wr κ)) (w : Wr κ), l.foldl (lastStep k t) f = some w → w ∈ l ∨ f = some w
  | [], f, w, h => .inr h
  | v :: l, f, w, h => by
    rw [List.foldl_cons] at h
    rcases last_from t l _ w h with h1 | h1
    · exact .inl (List.mem_cons_of_mem _ h1)
    · unfold lastStep at h1
      split at h1
      · split at h1
        · cases h1; exact .inl List.mem_cons_self
        · split at h1
          · cases h1; exact .inl List.mem_cons_self
          · exact .inr h1
      · exact .inr h1
end
abbrev W := Wr Str
def WrAt (H : Hp) (v : V) (w : W) : Prop := ∃ a, v = .ref a ∧ H a = some (.tup [.int w.place, .str w.kind, .int w.goal, .int w.tick])
theorem WrAt.mono {H H' : Hp} (t : Tups H H') {v : V} {e : W} (h : WrAt H v e) : WrAt H' v e := let ⟨a, h1, h2⟩ := h; ⟨a, h1, t _ _ h2⟩
end K3
namespace K3
open PySem PySem.Spec PyProof.Rows L2
/-! ### the law's own words -/
def ToldAt (H : Hp) (v : V) (t : PI0) : Prop := ∃ a kdA, v = .ref a ∧ H a = some (.tup [.int t.regs, .ref kdA, .bl t.ho, .bl t.od]) ∧ KdAt H kdA t.ks
theorem ToldAt.same {H H' : Hp} {v : V} {t : PI0} (h : ToldAt H v t) (s : Same H H') : ToldAt H' v t := let ⟨a, b, h1, h2, h3⟩ := h; ⟨a, b, h1, s _ _ h2, h3.same s⟩
def WsAt (H : Hp) (a : Addr) (ws : List W) : Prop := ∃ xs, H a = some (.lst xs) ∧ Al (WrAt H) xs ws
def OwAt (H : Hp) (v : V) : Option W → Prop
  | none => v = .non
  | some w => WrAt H v w
def near (ws : List W) (g : Int) : List W := ws.filter fun w => decide (w.goal = g)
theorem near_snoc (ws : List W) (w : W) (g : Int) : near (ws ++ [w]) g = near ws g ++ (if w.goal = g then [w] else []) := by
  unfold near
  rw [List.filter_append]
  by_cases h : w.goal = g
  · simp [h]
  · simp [h]
/-- writers whose kinds are known, in all -/
structure WsOk (ks : KT) (ws : List W) : Prop where
  kn : ∀ w ∈ ws, Kn ks w.kind
  sz : ws.length ≤ 100
section
variable {P : Program} {w : World} {K : PySem.W.Frag} {mg : Str → Option Value} {base : Heap} {C : Addr}
/-! ### _law_there -/
def spThere (ti : PI0) : Sp := fun vs H Q _ => ∃ (v u : V) (w : W) (t : Int), vs = [v, u, .int t] ∧ ToldAt H v ti ∧ WrAt H u w ∧ Kn ti.ks w.kind ∧ Q (.bl (there (kd ti.ks) t w)) H
theorem scThere : FnScope ["told", "writer", "tick"] ["told", "writer", "tick"] (defScope sThere) := ⟨rfl, rfl, rfl, by decide +kernel, rfl, by decide +kernel, by decide +kernel⟩
theorem ok_there {ti : PI0} {f : Addr} {fd : FuncData} (F : Fun K "_law_there" "_law_there" sThere f fd) : FnOk P w K mg base CX0 1 f fd ["told", "writer", "tick"] (spThere ti) := by
  refine F.ok scThere (fun vs H Q E h => ?_) (fun cdv A outer s H vs Q E hr h => ?_)
  · obtain ⟨v, u, w, t, rfl, _⟩ := h
    rfl
  · obtain ⟨v, u, w, t, rfl, ⟨a, kdA, rfl, ha, kvs, hk, hkv⟩, ⟨b, rfl, hb⟩, ⟨ki, hki⟩, k⟩ := h
    have hu := hu_of hr
    obtain ⟨tk, htk, hti⟩ := hkv.get hki
    refine ⟨_, pss_one (ps_ret (pe_cmpR op_le (pe_op op_add (pe_ix ix_tup (pv 1) pe_int (fun _ _ => rfl)) (pe_ix ix_tup (pe_dget hu (pe_ix ix_tup (pv 0) pe_int (fun _ _ => rfl)) (pe_ix ix_tup (pv 1) pe_int (fun _ _ => rfl)) (fun _ _ => rfl)) pe_int (fun _ _ => rfl))) (pv 2) (nomark _))), ?_⟩
    refine ⟨_, rfl, b, _, 3, _, rfl, rfl, SqT.of hb, rfl, _, rfl, a, _, 1, _, rfl, rfl, SqT.of ha, rfl, _, rfl, b, _, 1, _, rfl, rfl, SqT.of hb, rfl, kdA, .ref tk, rfl, ?_, tk, _, 1, _, rfl, rfl, SqT.of hti, rfl, _, _, rfl, rfl, _, rfl, _, _, rfl, rfl, ?_⟩
    · rw [← htk]; exact .inl ⟨kvs, Sum.inr w.kind, hk, rfl, rfl⟩
    have : decide (w.tick + ki.len ≤ t) = there (kd ti.ks) t w := by
      unfold there land; rw [kd_len hki]
    show Q (.bl (decide (w.tick + ki.len ≤ t))) H
    rw [this]; exact k
/-! ### _law_last -/
def spLast (ti : PI0) : Sp := fun vs H Q _ => ∃ (v : V) (wa : Addr) (ws : List W) (g t : Int), vs = [v, .ref wa, .int g, .int t] ∧ ToldAt H v ti ∧ WsAt H wa ws ∧ WsOk ti.ks ws ∧ ∀ v', OwAt H v' (lastL (kd ti.ks) t (near ws g)) → Q v' H
theorem scLast : FnScope ["told", "writers", "goal", "tick", "found", "writer", "lands"] ["told", "writers", "goal", "tick"] (defScope sLast) := ⟨rfl, rfl, rfl, by decide +kernel, rfl, by decide +kernel, by decide +kernel⟩
theorem last_mem (k : Kd Str) (t : Int) (l : List W) (w : W) (h : lastL k t l = some w) : w ∈ l := by
  exact (last_from k t l none w h).resolve_right fun z => nomatch z
theorem lastL_snoc (k : Kd Str) (t : Int) (l : List W) (w : W) : lastL k t (l ++ [w]) = lastStep k t (lastL k t l) w := by
  unfold lastL; rw [List.foldl_append]; rfl
theorem near_mem {ws : List W} {g : Int} {w : W} (h : w ∈ near ws g) : w ∈ ws := (List.mem_filter.mp h).1
theorem ok_last {ti : PI0} {f fT : Addr} {fd fdT : FuncData} (F : Fun K "_law_last" "_law_last" sLast f fd) (DT : Dfn P w K mg base "_law_there" 1 ["told", "writer", "tick"] (spThere ti) fT fdT) : FnOk P w K mg base CX0 2 f fd ["told", "writers", "goal", "tick"] (spLast ti) := by
  refine F.ok scLast (fun vs H Q E h => ?_) (fun cdv A outer s H vs Q E hr h => ?_)
  · obtain ⟨v, wa, ws, g, t, rfl, _⟩ := h
    rfl
  · obtain ⟨v, wa, ws, g, t, rfl, htold, ⟨xs, hw, hal⟩, wok, k⟩ := h
    have hu := hu_of hr
    have nd := scLast.nd
    obtain ⟨a, kdA, rfl, ha, kvs, hk, hkv⟩ := id htold
    refine ⟨_, pss_cons (ps_set (i := 4) nd rfl (.inl rfl) pe_non)
      (pss_cons (ps_for PassesOwn.never rfl (pi_list (pv 1)) (pg_name (i := 5) nd rfl (.inl rfl))
        (pss_one (ps_if (PW.pt (pw_and (pt_cmpR op_eq (pe_ix ix_tup (pv 5) pe_int (fun _ _ => rfl)) (pv 2) (nomark _)) (pw_and1 (pt_val (pcl DT hr (pa_cons (pv 0) (pa_cons (pv 5) (pa_cons (pv 3) pa_nil))))))))
          (pss_cons (ps_set (i := 6) nd rfl (.inl rfl) (pe_op op_add (pe_ix ix_tup (pv 5) pe_int (fun _ _ => rfl)) (pe_ix ix_tup (pe_dget hu (pe_ix ix_tup (pv 0) pe_int (fun _ _ => rfl)) (pe_ix ix_tup (pv 5) pe_int (fun _ _ => rfl)) (fun _ _ => rfl)) pe_int (fun _ _ => rfl))))
          (pss_one (ps_if (PW.pt (pw_or (pt_cmpR op_isN (pv 4) pe_non (nomark _)) (pw_or1 (pt_cmpR op_ge (pv 6) (pe_op op_add (pe_ix ix_tup (pv 4) pe_int (fun _ _ => rfl)) (pe_ix ix_tup (pe_dget hu (pe_ix ix_tup (pv 0) pe_int (fun _ _ => rfl)) (pe_ix ix_tup (pv 4) pe_int (fun _ _ => rfl)) (fun _ _ => rfl)) pe_int (fun _ _ => rfl))) (nomark _)))))
            (pss_one (ps_set (i := 4) nd rfl (.inl rfl) (pv 5))) pss_nil))) pss_nil)))
      (pss_one (ps_ret (pv 4)))), ?_⟩
    let kk := kd ti.ks
    let σ0 : V → Option V → Option V → L2.St := fun v4 v5 v6 => [some (.ref a), some (.ref wa), some (.int g), some (.int t), some v4, v5, v6]
    refine ⟨_, rfl, wa, rfl, ⟨_, SqL.of hw⟩, for_list (K := K) (xs := xs) (fun j σ' H' => H' = H ∧ ∃ v4 v5 v6, σ' = σ0 v4 v5 v6 ∧ OwAt H v4 (lastL kk t (near (ws.take j) g)))
      ⟨rfl, .non, none, none, rfl, rfl⟩ (fun j σ' H' _ hh => by obtain ⟨rfl, _⟩ := hh; exact SqL.of hw) ?_ ?_⟩
    · rintro j y σ' H' hj ⟨rfl, v4, v5, v6, rfl, ho⟩
      obtain ⟨w, hwj, b, rfl, hb⟩ := hal.at hj
      have hwm := List.mem_of_getElem? hwj
      obtain ⟨ki, hki⟩ := wok.kn w hwm
      obtain ⟨tk, htk, hti⟩ := hkv.get hki
      have en : near (ws.take (j + 1)) g = near (ws.take j) g ++ (if w.goal = g then [w] else []) := by rw [take_succ_at hwj, near_snoc]
      refine ⟨_, rfl, b, _, 2, _, rfl, rfl, SqT.of hb, rfl, _, rfl, rfl, _, rfl, ?_⟩
      rw [dec_int]
      by_cases hg : w.goal = g
      · rw [if_pos hg] at en
        rw [decide_eq_true hg]
        refine iteT ?_
        refine ⟨_, rfl, _, rfl, _, rfl, _, _, w, t, rfl, htold, ⟨b, rfl, hb⟩, ⟨ki, hki⟩, _, rfl, ?_⟩
        have step : lastL kk t (near (ws.take (j + 1)) g) = lastStep kk t (lastL kk t (near (ws.take j) g)) w := by rw [en, lastL_snoc]
        cases hth : there kk t w with
        | false =>
          refine iteF ⟨rfl, v4, _, v6, rfl, ?_⟩
          rw [step]; unfold lastStep; rw [hth]; exact ho
        | true =>
          refine iteT ?_
          refine ⟨_, rfl, b, _, 3, _, rfl, rfl, SqT.of hb, rfl, _, rfl, a, _, 1, _, rfl, rfl, SqT.of ha, rfl, _, rfl, b, _, 1, _, rfl, rfl, SqT.of hb, rfl, kdA, .ref tk, rfl, ?_, tk, _, 1, _, rfl, rfl, SqT.of hti, rfl, _, _, rfl, rfl, ?_⟩
          · rw [← htk]; exact .inl ⟨kvs, Sum.inr w.kind, hk, rfl, rfl⟩
          have el : land kk w = w.tick + ki.len := by unfold land; rw [kd_len hki]
          refine ⟨_, rfl, rfl, _, rfl, ?_⟩
          cases hl : lastL kk t (near (ws.take j) g) with
          | none =>
            rw [hl] at ho
            have ho' : v4 = .non := ho
            subst ho'
            refine iteT (iteT ?_)
            refine ⟨_, rfl, ⟨rfl, _, _, _, rfl, ?_⟩⟩
            rw [step, hl]; unfold lastStep; rw [hth]; exact ⟨b, rfl, hb⟩
          | some u =>
            rw [hl] at ho
            obtain ⟨c, rfl, hc⟩ : WrAt H' v4 u := ho
            have hum : u ∈ ws := List.mem_of_mem_take (near_mem (last_mem _ _ _ _ hl))
            obtain ⟨ku, hku⟩ := wok.kn u hum
            obtain ⟨tu, htu, htui⟩ := hkv.get hku
            refine iteF ?_
            refine ⟨_, rfl, _, rfl, c, _, 3, _, rfl, rfl, SqT.of hc, rfl, _, rfl, a, _, 1, _, rfl, rfl, SqT.of ha, rfl, _, rfl, c, _, 1, _, rfl, rfl, SqT.of hc, rfl, kdA, .ref tu, rfl, ?_, tu, _, 1, _, rfl, rfl, SqT.of htui, rfl, _, _, rfl, rfl, _, _, rfl, rfl, _, rfl, ?_⟩
            · rw [← htu]; exact .inl ⟨kvs, Sum.inr u.kind, hk, rfl, rfl⟩
            have eu : land kk u = u.tick + ku.len := by unfold land; rw [kd_len hku]
            rw [← el, ← eu]
            by_cases hle : land kk u ≤ land kk w
            · rw [decide_eq_true hle]
              refine iteT ?_
              refine ⟨_, rfl, ⟨rfl, _, _, _, rfl, ?_⟩⟩
              rw [step, hl]; unfold lastStep; rw [hth]
              simp only [if_true, hle]
              exact ⟨b, rfl, hb⟩
            · rw [decide_eq_false hle]
              refine iteF ⟨rfl, _, _, _, rfl, ?_⟩
              rw [step, hl]; unfold lastStep; rw [hth]
              simp only [if_true, hle, if_false]
              exact ⟨c, rfl, hc⟩
      · rw [if_neg hg, List.append_nil] at en
        rw [decide_eq_false hg]
        refine iteF (iteF ⟨rfl, v4, _, v6, rfl, ?_⟩)
        rw [en]; exact ho
    · rintro σ' H' ⟨rfl, v4, v5, v6, rfl, ho⟩
      rw [hal.1, List.take_length] at ho
      exact ⟨_, rfl, k _ ho⟩
end
end K3
namespace K3
open PySem PySem.Spec PyProof.Rows L2
theorem near_succ {ws : List W} {j : Nat} {w : W} {g : Int} (h : ws[j]? = some w) : near (ws.take (j + 1)) g = near (ws.take j) g ++ (if w.goal = g then [w] else []) := by rw [take_succ_at h, near_snoc]
theorem near_len (ws : List W) (g : Int) : (near ws g).length ≤ ws.length := List.length_filter_le _ _
theorem WsAt.same {H H' : Hp} {a : Addr} {ws : List W} (h : WsAt H a ws) (s : Same H H') : WsAt H' a ws := let ⟨xs, h1, h2⟩ := h; ⟨xs, s _ _ h1, h2.mono fun _ _ => WrAt.mono s.tups⟩
theorem dec_str (i j : Str) : decide (V.str i = V.str j) = decide (i = j) := by
  by_cases h : i = j
  · rw [decide_eq_true h, decide_eq_true (congrArg V.str h)]
  · rw [decide_eq_false h, decide_eq_false (fun z => h (V.str.inj z))]
/-! ### writers as data -/
def dW (w : W) : PyData := .tuple [.int w.place, .str w.kind, .int w.goal, .int w.tick]
theorem dp_wr {K : PySem.W.Frag} {H : Hp} {v : V} {w : W} (h : WrAt H v w) : Dp K H v (dW w) := by
  obtain ⟨a, rfl, h⟩ := h
  exact .tup (SqT.of h) (.cons (.int _) (.cons (.str _) (.cons (.int _) (.cons (.int _) .nil))))
theorem dp_wrs {K : PySem.W.Frag} {H : Hp} : ∀ {xs : List V} {ws : List W}, Al (WrAt H) xs ws → DpAll K H xs (ws.map dW)
  | [], [], _ => .nil
  | x :: xs, w :: ws, h => .cons (dp_wr (h.2 0 x w rfl rfl)) (dp_wrs ⟨by have := h.1; simp at this; exact this, fun i y d hy hd => h.2 (i + 1) y d (by simpa using hy) (by simpa using hd)⟩)
  | [], _ :: _, h => by have := h.1; simp at this
  | _ :: _, [], h => by have := h.1; simp at this
theorem lay_wr {w : W} (h : PyData.strOk w.kind = true) : (dW w).canLay0 = true := by
  unfold dW PyData.canLay0 PyData.canLayAll0
  unfold PyData.canLay0 PyData.canLayAll0
  unfold PyData.canLay0 PyData.canLayAll0
  unfold PyData.canLay0 PyData.canLayAll0
  unfold PyData.canLay0 PyData.canLayAll0
  rw [h]; rfl
theorem depth_wr (w : W) : (dW w).depth = 1 := rfl
theorem shaped_wr {w : W} (h : PyData.strOk w.kind = true) : SeqAt.shaped (dW w) = true := by
  unfold SeqAt.shaped
  rw [lay_wr h]; rfl
theorem shaped_wrs {ws : List W} (h : ∀ w ∈ ws, PyData.strOk w.kind = true) : SeqAt.shaped (.list (ws.map dW)) = true := by
  have h1 : PyData.canLayAll0 (ws.map dW) = true := by
    induction ws with
    | nil => rfl
    | cons n ns ih =>
      rw [List.map_cons]; unfold PyData.canLayAll0
      rw [lay_wr (h n List.mem_cons_self), ih fun w hw => h w (List.mem_cons_of_mem _ hw)]; rfl
  have h2 : PyData.depthAll (ws.map dW) ≤ 1 := by
    clear h h1
    induction ws with
    | nil => exact Nat.zero_le _
    | cons n ns ih =>
      rw [List.map_cons]; unfold PyData.depthAll
      rw [depth_wr]; omega
  unfold SeqAt.shaped PyData.canLay0 PyData.depth
  rw [h1, Bool.true_and]
  exact decide_eq_true (by omega)
theorem eqv_wr (w u : W) : PyData.eqv (dW w) (dW u) = decide (w = u) := by
  have e : PyData.eqv (dW w) (dW u) = (w.place == u.place && (w.kind == u.kind && (w.goal == u.goal && (w.tick == u.tick && true)))) := rfl
  rw [e]
  by_cases h : w = u
  · subst h; simp
  · rw [decide_eq_false h]
    rw [← Bool.not_eq_true]
    intro z
    simp only [Bool.and_eq_true, beq_iff_eq] at z
    exact h (by cases w; cases u; simp_all)
theorem WsOk.str {ks : KT} {ws : List W} (h : WsOk ks ws) (ko : KOk ks) : ∀ w ∈ ws, PyData.strOk w.kind = true := fun w hw => by
  obtain ⟨i, hi⟩ := h.kn w hw
  exact ko.str _ _ hi
section
variable {P : Program} {w : World} {K : PySem.W.Frag} {mg : Str → Option Value} {base : Heap} {C : Addr}
/-! ### _law_read -/
def spRead (ti : PI0) : Sp := fun vs H Q _ => ∃ (v : V) (wa : Addr) (ws : List W) (g t : Int), vs = [v, .ref wa, .int g, .int t] ∧ ToldAt H v ti ∧ WsAt H wa ws ∧ WsOk ti.ks ws ∧ Q (.int (readOf (kd ti.ks) t (near ws g))) H
theorem scRead : FnScope ["told", "writers", "source", "tick", "last", "found", "writer", "way"] ["told", "writers", "source", "tick"] (defScope sRead) := ⟨rfl, rfl, rfl, by decide +kernel, rfl, by decide +kernel, by decide +kernel⟩
theorem ok_read {ti : PI0} {f fT fL : Addr} {fd fdT fdL : FuncData} (F : Fun K "_law_read" "_law_read" sRead f fd) (T : Txt K mg) (DT : Dfn P w K mg base "_law_there" 1 ["told", "writer", "tick"] (spThere ti) fT fdT)
    (DL : Dfn P w K mg base "_law_last" 2 ["told", "writers", "goal", "tick"] (spLast ti) fL fdL) : FnOk P w K mg base CX0 3 f fd ["told", "writers", "source", "tick"] (spRead ti) := by
  refine F.ok scRead (fun vs H Q E h => ?_) (fun cdv A outer s H vs Q E hr h => ?_)
  · obtain ⟨v, wa, ws, g, t, rfl, _⟩ := h
    rfl
  · obtain ⟨v, wa, ws, g, t, rfl, htold, hws, wok, k⟩ := h
    have hu := hu_of hr
    have hr1 : Room 1 _ := hr.mono (by decide)
    have nd := scRead.nd
    obtain ⟨a, kdA, rfl, ha, kvs, hk, hkv⟩ := id htold
    obtain ⟨xs, hw, hal⟩ := id hws
    refine ⟨_, pss_cons (ps_set (i := 4) nd rfl (.inl rfl) (pcl DL hr (pa_cons (pv 0) (pa_cons (pv 1) (pa_cons (pv 2) (pa_cons (pv 3) pa_nil))))))
      (Evl.pss_cut (ps_set (i := 5) nd rfl (.inl rfl) (pe_ifExp (pt_cmpR op_isN (pv 4) pe_non (nomark _)) (pe_un un_neg pe_int) (pe_ix ix_tup (pv 4) pe_int (fun _ _ => rfl))))
      (pss_cons (ps_for PassesOwn.never rfl (pi_list (pv 1)) (pg_name (i := 6) nd rfl (.inl rfl))
        (pss_cons (ps_set (i := 7) nd rfl (.inl rfl) (pe_ix ix_tup (pe_dget hu (pe_ix ix_tup (pv 0) pe_int (fun _ _ => rfl)) (pe_ix ix_tup (pv 6) pe_int (fun _ _ => rfl)) (fun _ _ => rfl)) pe_int (fun _ _ => rfl)))
        (pss_one (ps_if (PW.pt (pw_and (pt_cmpR op_eq (pe_ix ix_tup (pv 6) pe_int (fun _ _ => rfl)) (pv 2) (nomark _)) (pw_and (pt_not (pt_val (pcl DT hr1 (pa_cons (pv 0) (pa_cons (pv 6) (pa_cons (pv 3) pa_nil))))))
            (pw_and (pt_cmpR op_notN (pv 7) pe_non (nomark _)) (pw_and1 (pt_cmpR op_ge (pe_op op_sub (pv 3) (pe_ix ix_tup (pv 6) pe_int (fun _ _ => rfl))) (pv 7) (nomark _)))))))
          (pss_one (ps_set (i := 5) nd rfl (.inl rfl) (pe_callB (call_max2 rfl) (by rfl) T.max (by decide +kernel) (pa_cons (pv 5) (pa_cons (pe_ix ix_tup (pv 6) pe_int (fun _ _ => rfl)) pa_nil))))) pss_nil))))
      (pss_one (ps_ret (pv 5))))), ?_⟩
    let kk := kd ti.ks
    refine ⟨_, rfl, _, rfl, _, rfl, _, rfl, _, wa, ws, g, t, rfl, htold, hws, wok, fun v4 ho => ?_⟩
    let σ0 : Int → Option V → Option V → L2.St := fun f v6 v7 => [some (.ref a), some (.ref wa), some (.int g), some (.int t), some v4, some (.int f), v6, v7]
    refine ⟨fun σ' H' => H' = H ∧ σ' = σ0 (plc (lastL kk t (near ws g))) none none, ?_, ?_⟩
    · refine ⟨_, rfl, rfl, _, rfl, ?_⟩
      cases hl : lastL kk t (near ws g) with
      | none =>
        rw [hl] at ho
        have ho' : v4 = .non := ho
        subst ho'
        exact iteT ⟨_, rfl, rfl, rfl⟩
      | some u =>
        rw [hl] at ho
        obtain ⟨c, rfl, hc⟩ : WrAt H v4 u := ho
        exact iteF ⟨_, rfl, c, _, 0, _, rfl, rfl, SqT.of hc, rfl, rfl, rfl⟩
    · rintro σ' H' ⟨rfl, rfl⟩
      refine ⟨_, rfl, wa, rfl, ⟨_, SqL.of hw⟩, for_list (K := K) (xs := xs) (fun j σ' H'' => H'' = H' ∧ ∃ v6 v7, σ' = σ0 ((near (ws.take j) g).foldl (readStep kk t) (plc (lastL kk t (near ws g)))) v6 v7)
        ⟨rfl, none, none, rfl⟩ (fun j σ' H'' _ hh => by obtain ⟨rfl, _⟩ := hh; exact SqL.of hw) ?_ ?_⟩
      · rintro j y σ' H'' hj ⟨rfl, v6, v7, rfl⟩
        obtain ⟨w, hwj, b, rfl, hb⟩ := hal.at hj
        have hwm := List.mem_of_getElem? hwj
        obtain ⟨ki, hki⟩ := wok.kn w hwm
        obtain ⟨tk, htk, hti⟩ := hkv.get hki
        have en := near_succ (g := g) hwj
        refine ⟨_, rfl, a, _, 1, _, rfl, rfl, SqT.of ha, rfl, _, rfl, b, _, 1, _, rfl, rfl, SqT.of hb, rfl, kdA, .ref tk, rfl, ?_, tk, _, 2, _, rfl, rfl, SqT.of hti, rfl, ?_⟩
        · rw [← htk]; exact .inl ⟨kvs, Sum.inr w.kind, hk, rfl, rfl⟩
        refine ⟨_, rfl, b, _, 2, _, rfl, rfl, SqT.of hb, rfl, _, rfl, rfl, _, rfl, ?_⟩
        rw [dec_int]
        by_cases hg : w.goal = g
        · rw [if_pos hg] at en
          rw [decide_eq_true hg]
          refine iteT ?_
          have step : (near (ws.take (j + 1)) g).foldl (readStep kk t) (plc (lastL kk t (near ws g))) = readStep kk t ((near (ws.take j) g).foldl (readStep kk t) (plc (lastL kk t (near ws g)))) w := by
            rw [en, List.foldl_append]; rfl
          have er : ready kk t w = (!there kk t w && (match ki.way with
            | none => false
            | some x => decide (x ≤ t - w.tick))) := by
            unfold ready
            rw [kd_way hki]
            all_goals (cases ki.way <;> rfl)
          have skip : ready kk t w = false → (H'' = H'' ∧ ∃ v6 v7', σ0 ((near (ws.take j) g).foldl (readStep kk t) (plc (lastL kk t (near ws g)))) (some (.ref b)) (some (oV ki.way)) = σ0 ((near (ws.take (j + 1)) g).foldl (readStep kk t) (plc (lastL kk t (near ws g)))) v6 v7') := fun h => by
            refine ⟨rfl, some (.ref b), some (oV ki.way), ?_⟩
            rw [step, readStep_eq, h, if_neg Bool.false_ne_true]
          refine ⟨_, rfl, _, rfl, _, rfl, _, _, w, t, rfl, htold, ⟨b, rfl, hb⟩, ⟨ki, hki⟩, _, rfl, ?_⟩
          cases hth : there kk t w with
          | true => exact iteF (iteF (skip (by rw [er, hth]; rfl)))
          | false =>
            refine iteT ?_
            cases hwy : ki.way with
            | none =>
              rw [hwy] at skip er
              refine ⟨_, rfl, rfl, _, rfl, ?_⟩
              exact iteF (iteF (skip (by rw [er]; simp)))
            | some x =>
              rw [hwy] at skip er
              refine ⟨_, rfl, rfl, _, rfl, ?_⟩
              refine iteT ?_
              refine ⟨_, rfl, _, rfl, b, _, 3, _, rfl, rfl, SqT.of hb, rfl, _, _, rfl, rfl, _, rfl, _, _, rfl, rfl, _, rfl, ?_⟩
              have er' : ready kk t w = decide (x ≤ t - w.tick) := by rw [er, hth]; rfl
              rw [← er']
              cases hrd : ready kk t w with
              | false => exact iteF (skip hrd)
              | true =>
                refine iteT ?_
                refine ⟨_, rfl, _, rfl, b, _, 0, _, rfl, rfl, SqT.of hb, rfl, _, _, rfl, ?_⟩
                refine ⟨rfl, some (.ref b), some (.int x), ?_⟩
                rw [step, readStep_eq, hrd, if_pos rfl]; rfl
        · rw [if_neg hg, List.append_nil] at en
          rw [decide_eq_false hg]
          refine iteF (iteF ⟨rfl, some (.ref b), some (oV ki.way), ?_⟩)
          rw [en]; rfl
      · rintro σ' H'' ⟨rfl, v6, v7, rfl⟩
        rw [hal.1, List.take_length]
        exact ⟨_, rfl, k⟩
end
end K3
namespace K3
open PySem PySem.Spec PyProof.Rows L2
/-! ### the law's word of held -/
def heldW (ti : PI0) (t : Int) (ws : List W) (i : Ins) : Bool :=
  (ti.ho && i.srcs.any fun s => srcHeld (kd ti.ks) t (near ws s)) || (ti.od && !decide (i.goal < 0) && (near ws i.goal).any (ordW (kd ti.ks) t ((kd ti.ks).len i.kind)))
theorem any_and {α : Type} (b : Bool) (p : α → Bool) : ∀ l : List α, l.any (fun s => b && p s) = (b && l.any p)
  | [] => by simp
  | x :: l => by rw [List.any_cons, List.any_cons, any_and b p l]; cases b <;> simp
theorem al_last {R : V → W → Prop} {xs : List V} {l : List W} (h : Al R xs l) {w : W} (hl : l.getLast? = some w) : ∃ x, atI xs (-1) = some x ∧ R x w := by
  rcases List.eq_nil_or_concat l with rfl | ⟨pre, u, rfl⟩
  · cases hl
  · rw [List.concat_eq_append] at *
    rw [gl_snoc] at hl
    cases hl
    obtain ⟨ys, y, rfl, _, hy⟩ := h.split rfl
    exact ⟨y, atI_last ys y, hy⟩
theorem isEmpty_map {α β : Type} (g : α → β) (l : List α) : (l.map g).isEmpty = l.isEmpty := by cases l <;> rfl
section
variable {P : Program} {w : World} {K : PySem.W.Frag} {mg : Str → Option Value} {base : Heap} {C : Addr}
def spLHeld (ti : PI0) : Sp := fun vs H Q _ => ∃ (v vi : V) (wa : Addr) (ws : List W) (i : Ins) (t : Int) (n : Nat), vs = [v, .ref wa, vi, .int t] ∧ ToldAt H v ti ∧ WsAt H wa ws ∧ WsOk ti.ks ws ∧ InAt H vi i ∧ InOk ti.ks n i ∧ ∀ H', Same H H' → Q (.bl (heldW ti t ws i)) H'
abbrev nLHeld : List Str := ["told", "writers", "one", "tick", "kind", "goal", "sources", "source", "writer", "near", "way"]
theorem scLHeld : FnScope nLHeld ["told", "writers", "one", "tick"] (defScope sLHeld) := ⟨rfl, rfl, rfl, by decide +kernel, rfl, by decide +kernel, by decide +kernel⟩
theorem ok_lheld {ti : PI0} {f fT : Addr} {fd fdT : FuncData} (F : Fun K "_law_held" "_law_held" sLHeld f fd) (ko : KOk ti.ks) (DT : Dfn P w K mg base "_law_there" 1 ["told", "writer", "tick"] (spThere ti) fT fdT) : FnOk P w K mg base CX0 2 f fd ["told", "writers", "one", "tick"] (spLHeld ti) := by
  refine F.ok scLHeld (fun vs H Q E h => ?_) (fun cdv A outer s H vs Q E hr h => ?_)
  · obtain ⟨v, vi, wa, ws, i, t, n, rfl, _⟩ := h
    rfl
  · obtain ⟨v, vi, wa, ws, i, t, n, rfl, htold, hws, wok, hin, iok, k⟩ := h
    have hu := hu_of hr
    have nd := scLHeld.nd
    obtain ⟨a, kdA, rfl, ha, kvs, hk, hkv⟩ := id htold
    obtain ⟨xs, hw, hal⟩ := id hws
    obtain ⟨ia, ib, rfl, hia, hib⟩ := id hin
    refine ⟨_, pss_cons (ps_asg (pv 2) (pg_tup (by rfl) (pgs_cons (pg_name (i := 4) nd rfl (.inl rfl)) (pgs_cons (pg_name (i := 5) nd rfl (.inl rfl)) (pgs_cons (pg_name (i := 6) nd rfl (.inl rfl)) pgs_nil)))))
      (pss_cons (ps_for PassesOwn.never rfl (pi_tup (pv 6)) (pg_name (i := 7) nd rfl (.inr rfl))
        (pss_cons (ps_setLc (i := 9) (own := [("writer", 8)]) (g := gName 8) (by rfl) nd rfl rfl (sw_true rfl rfl rfl (by decide +kernel)) (pi_list (pv 1)) (blkOk_by (N := nLHeld) (sc := defScope sLHeld) (by decide +kernel))
            (fun _ _ _ _ _ => pg_name (i := 8) nd rfl (.inl rfl)) (fun _ _ _ _ _ => pts_one (pt_cmpR op_eq (pe_ix (ixT K) (pv 8) pe_int (fun _ _ => rfl)) (pv 7) (nomark _))) (fun _ _ _ _ _ => pv 8))
        (pss_one (ps_if (PW.pt (pw_and (pt_val (pe_ix ix_tup (pv 0) pe_int (fun _ _ => rfl))) (pw_and (pt_cmpR (neDK K hr.units) (pv 9) (plst pa_nil) (nomark _))
            (pw_and1 (pt_not (pt_val (pcl DT hr (pa_cons (pv 0) (pa_cons (pe_ix (ixL K) (pv 9) (pe_un un_neg pe_int) (fun _ _ => rfl)) (pa_cons (pv 3) pa_nil))))))))))
          (pss_cons (ps_set (i := 10) nd rfl (.inl rfl) (pe_ix ix_tup (pe_dget hu (pe_ix ix_tup (pv 0) pe_int (fun _ _ => rfl)) (pe_ix ix_tup (pe_ix (ixL K) (pv 9) (pe_un un_neg pe_int) (fun _ _ => rfl)) pe_int (fun _ _ => rfl)) (fun _ _ => rfl)) pe_int (fun _ _ => rfl)))
          (pss_one (ps_if (PW.pt (pw_or (pt_cmpR op_isN (pv 10) pe_non (nomark _)) (pw_or1 (pt_cmpR op_lt (pe_op op_sub (pv 3) (pe_ix ix_tup (pe_ix (ixL K) (pv 9) (pe_un un_neg pe_int) (fun _ _ => rfl)) pe_int (fun _ _ => rfl))) (pv 10) (nomark _)))))
            (pss_one (ps_ret pe_bl)) pss_nil))) pss_nil))))
      (pss_cons (ps_if (PW.pt (pw_and (pt_val (pe_ix ix_tup (pv 0) pe_int (fun _ _ => rfl))) (pw_and1 (pt_cmpR op_ge (pv 5) pe_int (nomark _)))))
        (pss_one (ps_for PassesOwn.never rfl (pi_list (pv 1)) (pg_name (i := 8) nd rfl (.inl rfl))
          (pss_one (ps_if (PW.pt (pw_and (pt_cmpR op_eq (pe_ix ix_tup (pv 8) pe_int (fun _ _ => rfl)) (pv 5) (nomark _))
              (pw_and1 (pt_cmpR op_gt (pe_op op_add (pe_ix ix_tup (pv 8) pe_int (fun _ _ => rfl)) (pe_ix ix_tup (pe_dget hu (pe_ix ix_tup (pv 0) pe_int (fun _ _ => rfl)) (pe_ix ix_tup (pv 8) pe_int (fun _ _ => rfl)) (fun _ _ => rfl)) pe_int (fun _ _ => rfl)))
                (pe_op op_add (pv 3) (pe_ix ix_tup (pe_dget hu (pe_ix ix_tup (pv 0) pe_int (fun _ _ => rfl)) (pv 4) (fun _ _ => rfl)) pe_int (fun _ _ => rfl))) (nomark _)))))
            (pss_one (ps_ret pe_bl)) pss_nil)))) pss_nil)
      (pss_one (ps_ret pe_bl)))), ?_⟩
    let kk := kd ti.ks
    let tst : Int → Bool := fun s => ti.ho && srcHeld kk t (near ws s)
    let σ0 : Option V → Option V → Option V → Option V → L2.St := fun v7 v8 v9 v10 => [some (.ref a), some (.ref wa), some (.ref ia), some (.int t), some (.str i.kind), some (.int i.goal), some (.ref ib), v7, v8, v9, v10]
    refine ⟨_, rfl, ia, _, rfl, SqT.of hia, rfl, _, _, rfl, _, _, rfl, _, _, rfl, rfl, ?_⟩
    refine ⟨_, rfl, ib, rfl, ⟨_, SqT.of hib⟩, for_tup (K := K) (xs := i.srcs.map V.int) (fun j σ' H' => Same H H' ∧ (∃ v7 v8 v9 v10, σ' = σ0 v7 v8 v9 v10) ∧ (i.srcs.take j).any tst = false)
      ⟨Same.refl H, ⟨none, none, none, none, rfl⟩, rfl⟩ (fun j σ' H' _ hh => SqT.of (hh.1 _ _ hib)) ?_ ?_⟩
    · rintro j y σ' H' hj ⟨s1, ⟨v7, v8, v9, v10, rfl⟩, hany⟩
      obtain ⟨s0, hs0, rfl⟩ := map_at hj
      have hw1 := s1 _ _ hw
      refine ⟨_, rfl, wa, rfl, ⟨_, SqL.of hw1⟩, fun D nD => lc_list (K := K) (xs := xs) (fun j' H'' => Same H' H'' ∧ ∃ acc, H'' D = some (.lst acc) ∧ Al (WrAt H'') acc (near (ws.take j') s0))
        ⟨same_upd nD, [], upd_same, Al.nil⟩ (fun j' H'' _ hh => SqL.of (hh.1 _ _ hw1)) ?_ ?_⟩
      · rintro j' y' H'' hj' ⟨s2, acc, hD, hacc⟩
        obtain ⟨w, hwj, b, rfl, hb⟩ := hal.at hj'
        have hb' := s2 _ _ (s1 _ _ hb)
        refine ⟨rfl, ?_⟩
        refine ⟨_, rfl, b, _, 2, _, rfl, rfl, SqT.of hb', rfl, _, rfl, rfl, _, rfl, ?_⟩
        rw [dec_int]
        by_cases hg : w.goal = s0
        · rw [decide_eq_true hg]
          have tp : Tups H'' (upd H'' D (.lst (acc ++ [.ref b]))) := tups_lst hD
          refine iteT ⟨_, rfl, _, hD, ?_, s2.mut nD, acc ++ [.ref b], upd_same, ?_⟩
          · have a1 := near_len (ws.take j') s0
            rw [List.length_take] at a1
            have := wok.sz
            rw [hacc.1]
            exact szl (by omega)
          · rw [near_succ hwj, if_pos hg]
            exact Al.snoc (hacc.mono fun _ _ => WrAt.mono tp) ⟨b, rfl, tp _ _ hb'⟩
        · rw [decide_eq_false hg]
          refine iteF ⟨s2, acc, hD, ?_⟩
          rw [near_succ hwj, if_neg hg, List.append_nil]; exact hacc
      · rintro H2 ⟨s2, acc, hD, hacc⟩
        rw [hal.1, List.take_length] at hacc
        have s12 := s1.trans s2
        have ha2 := s12 _ _ ha
        have cont : tst s0 = false → ∀ v10', ∀ H3, Same H2 H3 → (Same H H3 ∧ (∃ u7 u8 u9 u10, (σ0 (some (.int s0)) v8 (some (.ref D)) v10') = σ0 u7 u8 u9 u10) ∧ (i.srcs.take (j + 1)).any tst = false) :=
          fun h0 v10' H3 s3 => ⟨s12.trans s3, ⟨_, _, _, _, rfl⟩, any_take_succ hs0 hany h0⟩
        have cont' : tst s0 = false → ∀ H3, Same H2 H3 → (Same H H3 ∧ (∃ v7' v8' v9' v10', (σ0 (some (.int s0)) v8 (some (.ref D)) v10) = σ0 v7' v8' v9' v10') ∧ (i.srcs.take (j + 1)).any tst = false) := fun h0 H3 s3 => cont h0 v10 H3 s3
        have yes : tst s0 = true → ∀ H3, Same H2 H3 → Q (.bl true) H3 := fun h0 H3 s3 => by
          have : heldW ti t ws i = true := by
            unfold heldW
            have h1 := any_of_at (p := tst) hs0 h0
            rw [any_and] at h1
            rw [h1]; rfl
          rw [this] at k
          exact k H3 (s12.trans s3)
        refine ⟨_, rfl, a, _, 2, _, rfl, rfl, SqT.of ha2, rfl, _, rfl, ?_⟩
        cases hho : ti.ho with
        | false => exact iteF (iteF (cont' (by show (ti.ho && _) = false; rw [hho]; rfl) H2 (Same.refl H2)))
        | true =>
          refine iteT ?_
          have et : tst s0 = srcHeld kk t (near ws s0) := by show (ti.ho && _) = _; rw [hho]; rfl
          have hstrs : ∀ w ∈ near ws s0, PyData.strOk w.kind = true := fun w hw => wok.str ko w (near_mem hw)
          refine ⟨_, rfl, ?_⟩
          refine rd_l0 fun p3 H3 np3 s3 h3 => ?_
          refine ⟨.list ((near ws s0).map dW), .list [], .lst (SqL.of (s3 _ _ hD)) (dp_wrs (hacc.mono fun _ _ => WrAt.mono s3.tups)), .lst (SqL.of h3) .nil, shaped_wrs hstrs, shaped_ints [], _, rfl, ?_⟩
          rw [eqv_empty, isEmpty_map]
          cases hgl : (near ws s0).getLast? with
          | none =>
            have hn : near ws s0 = [] := List.getLast?_eq_none_iff.mp hgl
            rw [hn]
            exact iteF (iteF (cont' (by rw [et]; unfold srcHeld; rw [hgl]) H3 s3))
          | some w =>
            have hne : (near ws s0).isEmpty = false := by
              cases hq : near ws s0 with
              | nil => rw [hq] at hgl; cases hgl
              | cons _ _ => rfl
            rw [hne]
            have hwm := near_mem (List.mem_of_getLast? hgl)
            obtain ⟨ki, hki⟩ := wok.kn w hwm
            obtain ⟨tk, htk, hti⟩ := hkv.get hki
            obtain ⟨x, hatx, b, rfl, hb⟩ := al_last hacc hgl
            have s13 := s12.trans s3
            have hb3 := s3 _ _ hb
            have ha3 := s13 _ _ ha
            have hti3 := s13 _ _ hti
            have hk3 : Rd H3 kdA (.dK kvs) := by
              rcases hk with h1 | ⟨o, h1⟩
              · exact .inl (s13 _ _ h1)
              · exact .inr ⟨o, s13 _ _ h1⟩
            have es : srcHeld kk t (near ws s0) = (!there kk t w && (match ki.way with
                | none => true
                | some x => decide (t - w.tick < x))) := by
              unfold srcHeld
              rw [hgl]
              simp only []
              rw [kd_way hki]
              all_goals (cases ki.way <;> rfl)
            refine iteT ?_
            refine ⟨_, rfl, _, rfl, _, rfl, D, acc, _, _, rfl, rfl, SqL.of (s3 _ _ hD), hatx, _, rfl, _, _, w, t, rfl, htold.same s13, ⟨b, rfl, hb3⟩, ⟨ki, hki⟩, _, rfl, ?_⟩
            cases hth : there kk t w with
            | true => exact iteF (cont' (by rw [et, es, hth]; rfl) H3 s3)
            | false =>
              refine iteT ?_
              refine ⟨_, rfl, a, _, 1, _, rfl, rfl, SqT.of ha3, rfl, _, rfl, _, rfl, D, acc, _, _, rfl, rfl, SqL.of (s3 _ _ hD), hatx, b, _, 1, _, rfl, rfl, SqT.of hb3, rfl, kdA, .ref tk, rfl, ?_, tk, _, 2, _, rfl, rfl, SqT.of hti3, rfl, ?_⟩
              · rw [← htk]; exact .inl ⟨kvs, Sum.inr w.kind, hk3, rfl, rfl⟩
              refine ⟨_, rfl, rfl, _, rfl, ?_⟩
              cases hwy : ki.way with
              | none => exact iteT (iteT (yes (by rw [et, es, hth, hwy]; rfl) H3 s3))
              | some x =>
                refine iteF ?_
                refine ⟨_, rfl, _, rfl, _, rfl, D, acc, _, _, rfl, rfl, SqL.of (s3 _ _ hD), hatx, b, _, 3, _, rfl, rfl, SqT.of hb3, rfl, _, _, rfl, rfl, _, rfl, _, _, rfl, rfl, _, rfl, ?_⟩
                have et2 : tst s0 = decide (t - w.tick < x) := by rw [et, es, hth, hwy]; rfl
                rw [← et2]
                cases ht2 : tst s0 with
                | true => exact iteT (yes ht2 H3 s3)
                | false => exact iteF (cont ht2 (some (.int x)) H3 s3)
    · rintro σ' H' ⟨s1, ⟨v7, v8, v9, v10, rfl⟩, hany⟩
      rw [List.length_map, List.take_length, any_and] at hany
      have eH : heldW ti t ws i = (ti.od && !decide (i.goal < 0) && (near ws i.goal).any (ordW kk t (kk.len i.kind))) := by
        unfold heldW; rw [hany]; rfl
      rw [eH] at k
      have ha1 := s1 _ _ ha
      have hw1 := s1 _ _ hw
      refine ⟨_, rfl, a, _, 3, _, rfl, rfl, SqT.of ha1, rfl, _, rfl, ?_⟩
      cases hod : ti.od with
      | false =>
        rw [hod] at k
        exact iteF (iteF (k H' s1))
      | true =>
        rw [hod] at k
        refine iteT ?_
        refine ⟨_, rfl, _, _, rfl, rfl, _, rfl, ?_⟩
        by_cases hg : i.goal < 0
        · rw [decide_eq_true hg] at k
          rw [decide_eq_false (show ¬ (0 : Int) ≤ i.goal by omega)]
          exact iteF (k H' s1)
        · rw [decide_eq_false hg] at k
          rw [decide_eq_true (show (0 : Int) ≤ i.goal by omega)]
          refine iteT ?_
          obtain ⟨kg, hkg⟩ := iok.kn
          obtain ⟨tg, htg, htgi⟩ := hkv.get hkg
          rw [kd_len hkg] at k
          have hk1 : Rd H' kdA (.dK kvs) := by
            rcases hk with h1 | ⟨o, h1⟩
            · exact .inl (s1 _ _ h1)
            · exact .inr ⟨o, s1 _ _ h1⟩
          refine ⟨_, rfl, wa, rfl, ⟨_, SqL.of hw1⟩, for_list (K := K) (xs := xs) (fun j σ' H'' => H'' = H' ∧ (∃ v8', σ' = σ0 v7 v8' v9 v10) ∧ (near (ws.take j) i.goal).any (ordW kk t kg.len) = false)
            ⟨rfl, ⟨_, rfl⟩, rfl⟩ (fun j σ' H'' _ hh => by obtain ⟨rfl, _⟩ := hh; exact SqL.of hw1) ?_ ?_⟩
          · rintro j y σ' H'' hj ⟨rfl, ⟨v8', rfl⟩, hno⟩
            obtain ⟨w, hwj, b, rfl, hb⟩ := hal.at hj
            have hwm := List.mem_of_getElem? hwj
            obtain ⟨ki, hki⟩ := wok.kn w hwm
            obtain ⟨tk, htk, hti⟩ := hkv.get hki
            have hb1 := s1 _ _ hb
            have en := near_succ (g := i.goal) hwj
            refine ⟨_, rfl, b, _, 2, _, rfl, rfl, SqT.of hb1, rfl, _, rfl, rfl, _, rfl, ?_⟩
            rw [dec_int]
            by_cases hgg : w.goal = i.goal
            · rw [if_pos hgg] at en
              rw [decide_eq_true hgg]
              refine iteT ?_
              refine ⟨_, rfl, b, _, 3, _, rfl, rfl, SqT.of hb1, rfl, _, rfl, a, _, 1, _, rfl, rfl, SqT.of ha1, rfl, _, rfl, b, _, 1, _, rfl, rfl, SqT.of hb1, rfl, kdA, .ref tk, rfl, ?_, tk, _, 1, _, rfl, rfl, SqT.of (s1 _ _ hti), rfl, _, _, rfl, rfl, ?_⟩
              · rw [← htk]; exact .inl ⟨kvs, Sum.inr w.kind, hk1, rfl, rfl⟩
              refine ⟨_, rfl, _, rfl, a, _, 1, _, rfl, rfl, SqT.of ha1, rfl, _, rfl, kdA, .ref tg, rfl, ?_, tg, _, 1, _, rfl, rfl, SqT.of (s1 _ _ htgi), rfl, _, _, rfl, rfl, _, _, rfl, rfl, _, rfl, ?_⟩
              · rw [← htg]; exact .inl ⟨kvs, Sum.inr i.kind, hk1, rfl, rfl⟩
              have eo : decide (t + kg.len < w.tick + ki.len) = ordW kk t kg.len w := by
                unfold ordW land; rw [kd_len hki]
              rw [eo]
              cases ho : ordW kk t kg.len w with
              | true =>
                refine iteT ?_
                have : (near ws i.goal).any (ordW kk t kg.len) = true := List.any_eq_true.mpr ⟨w, List.mem_filter.mpr ⟨hwm, decide_eq_true hgg⟩, ho⟩
                rw [this] at k
                exact k _ s1
              | false =>
                refine iteF ⟨rfl, ⟨_, rfl⟩, ?_⟩
                rw [en, List.any_append, hno]
                simp [ho]
            · rw [if_neg hgg, List.append_nil] at en
              rw [decide_eq_false hgg]
              refine iteF (iteF ⟨rfl, ⟨_, rfl⟩, ?_⟩)
              rw [en]; exact hno
          · rintro σ' H'' ⟨rfl, ⟨v8', rfl⟩, hno⟩
            rw [hal.1, List.take_length] at hno
            rw [hno] at k
            exact k _ s1
end
end K3
namespace K3
open PySem PySem.Spec PyProof.Rows L2
theorem tups_dk {H : Hp} {D : Addr} {kvs : List (Key × V)} {o : HO} (h : H D = some (.dK kvs)) : Tups H (upd H D o) := fun b xs e => by
  have : b ≠ D := fun z => by rw [z, h] at e; cases e
  rw [upd_ne this]; exact e
theorem valV_none {kvs : List (Key × V)} {k : Key} (h : k ∉ kvs.map (·.1)) : valV kvs k = none := by
  cases e : valV kvs k with
  | none => rfl
  | some v => exact absurd (valV_in e) h
theorem KvOk.snoc {H : Hp} : ∀ {kvs : List (Key × V)} {ks : KT} {p : Key × V} {q : Str × KI}, KvOk H kvs ks → kiAt H p q → KvOk H (kvs ++ [p]) (ks ++ [q])
  | [], [], _, _, _, h => ⟨h, True.intro⟩
  | _ :: _, _ :: _, _, _, ⟨h1, h2⟩, h => ⟨h1, KvOk.snoc h2 h⟩
  | [], _ :: _, _, _, h, _ => h.elim
  | _ :: _, [], _, _, h, _ => h.elim
/-- what the law tells of a pipe, its kinds with all their pairs -/
def ToldF (H : Hp) (v : V) (t : PI0) : Prop := ∃ a d kvs, v = .ref a ∧ H a = some (.tup [.int t.regs, .ref d, .bl t.ho, .bl t.od]) ∧ H d = some (.dK kvs) ∧ KvOk H kvs t.ks ∧ KtOk t.ks
theorem ToldF.told {H : Hp} {v : V} {t : PI0} (h : ToldF H v t) : ToldAt H v t := let ⟨a, d, kvs, h1, h2, h3, h4, _⟩ := h; ⟨a, d, h1, h2, kvs, .inl h3, h4⟩
theorem ToldF.same {H H' : Hp} {v : V} {t : PI0} (h : ToldF H v t) (s : Same H H') : ToldF H' v t := let ⟨a, d, kvs, h1, h2, h3, h4, h5⟩ := h; ⟨a, d, kvs, h1, s _ _ h2, s _ _ h3, h4.mono s.tups, h5⟩
section
variable {P : Program} {w : World} {K : PySem.W.Frag} {mg : Str → Option Value} {base : Heap} {C : Addr}
/-! ### _law_settings -/
def spSet (K : PySem.W.Frag) : Sp := fun vs H Q _ => ∃ (a : Addr) (ns : List Int) (n : Int), vs = [.ref a, .int n] ∧ SqL K H a (ns.map V.int) ∧ ns.length ≤ 63 ∧ 0 ≤ n ∧ n ≤ 1000 ∧ ∀ v H' t, Same H H' → ToldF H' v t → 1 ≤ t.regs → t.regs ≤ 2 → (∀ q ∈ t.ks, q.2.len ≤ 3) → Q v H'
theorem scSet : FnScope ["script", "at", "kinds", "turn", "spot", "length", "way"] ["script", "at"] (defScope sSet) := ⟨rfl, rfl, rfl, by decide +kernel, rfl, by decide +kernel, by decide +kernel⟩
abbrev nms : List Str := ["add", "put"]
theorem ok_set {f fD : Addr} {fd fdD : FuncData} (F : Fun K "_law_settings" "_law_settings" sSet f fd) (T : Txt K mg) (DD : Dfn P w K mg base "_law_draw" 1 ["script", "at", "many"] (spDraw K) fD fdD) : FnOk P w K mg base CX0 2 f fd ["script", "at"] (spSet K) := by
  refine F.ok scSet (fun vs H Q E h => ?_) (fun cdv A outer s H vs Q E hr h => ?_)
  · obtain ⟨a, ns, n, rfl, _⟩ := h
    rfl
  · obtain ⟨a, ns, n, rfl, hS, hlen, n0, n1, k⟩ := h
    have nd := scSet.nd
    have hu := hu_of hr
    refine ⟨_, pss_cons (ps_set (i := 2) nd rfl (.inl rfl) pe_dnewK)
      (pss_cons (ps_for PassesOwn.never rfl (pi_range1 rfl T.range (pa_cons (pe_op op_add pe_int (pcl DD hr (pa_cons (pv 0) (pa_cons (pv 1) (pa_cons pe_int pa_nil))))) pa_nil)) (pg_name (i := 3) nd rfl (.inl rfl))
        (pss_cons (ps_set (i := 4) nd rfl (.inl rfl) (pe_op op_add (pv 1) (pe_op op_mul pe_int (pv 3))))
        (pss_cons (ps_set (i := 5) nd rfl (.inl rfl) (pe_op op_add pe_int (pcl DD hr (pa_cons (pv 0) (pa_cons (pe_op op_add (pv 4) pe_int) (pa_cons pe_int pa_nil))))))
        (pss_cons (ps_set (i := 6) nd rfl (.inl rfl) (pcl DD hr (pa_cons (pv 0) (pa_cons (pe_op op_add (pv 4) pe_int) (pa_cons (pv 5) pa_nil)))))
        (pss_one (ps_dput hu (pv 2) (pe_ix ix_tup (ptup (pa_cons pe_str (pa_cons pe_str pa_nil))) (pv 3) (fun _ _ => rfl))
          (ptup (pa_cons (pcl DD hr (pa_cons (pv 0) (pa_cons (pe_op op_add (pv 4) pe_int) (pa_cons (pe_op op_sub pe_int (pv 3)) pa_nil)))) (pa_cons (pv 5) (pa_cons (pe_ifExp (pt_cmpR op_eq (pv 6) pe_int (nomark _)) pe_non (pv 6)) pa_nil)))) rfl))))))
      (pss_one (ps_ret (ptup (pa_cons (pe_op op_add pe_int (pcl DD hr (pa_cons (pv 0) (pa_cons (pe_op op_add (pv 1) pe_int) (pa_cons pe_int pa_nil))))) (pa_cons (pv 2)
        (pa_cons (pe_cmpR op_eq (pcl DD hr (pa_cons (pv 0) (pa_cons (pe_op op_add (pv 1) pe_int) (pa_cons pe_int pa_nil)))) pe_int (nomark _))
        (pa_cons (pe_cmpR op_eq (pcl DD hr (pa_cons (pv 0) (pa_cons (pe_op op_add (pv 1) pe_int) (pa_cons pe_int pa_nil)))) pe_int (nomark _)) pa_nil)))))))), ?_⟩
    intro D nD
    have s1 := same_upd (o := HO.dK []) nD
    refine ⟨_, rfl, _, rfl, a, ns, n, 2, rfl, s1.seq hS, hlen, n0, by omega, by omega, by omega, fun H2 r s2 r0 r1 => ?_⟩
    refine ⟨_, _, rfl, rfl, _, rfl, by omega, by omega, ?_⟩
    have s12 := s1.trans s2
    refine for_range (n := (1 + r).toNat) (fun j σ' H' => Same H H' ∧ (∃ v3 v4 v5 v6, σ' = [some (.ref a), some (.int n), some (.ref D), v3, v4, v5, v6]) ∧ ∃ kvs ks, H' D = some (.dK kvs) ∧ KvOk H' kvs ks ∧ ks.map (·.1) = nms.take j ∧ ∀ q ∈ ks, KiOk q.2 ∧ q.2.len ≤ 3)
      ⟨s12, ⟨none, none, none, none, rfl⟩, [], [], s2 _ _ upd_same, True.intro, rfl, fun q h => by cases h⟩ ?_ ?_
    · rintro j σ' H' hj ⟨s3, ⟨v3, v4, v5, v6, rfl⟩, kvs, ks, hD, hkv, hnm, hki⟩
      rw [Int.zero_add]
      have hj2 : j < 2 := by omega
      -- spot
      refine ⟨_, rfl, _, rfl, _, _, rfl, rfl, .inl ⟨by decide, by decide⟩, _, _, rfl, rfl, ?_⟩
      -- length
      refine ⟨_, rfl, _, rfl, _, _, rfl, rfl, a, ns, _, 3, rfl, s3.seq hS, hlen, by omega, by omega, by omega, by omega, fun H4 rl s4 l0 l1 => ?_⟩
      refine ⟨_, _, rfl, rfl, ?_⟩
      -- way
      have s34 := s3.trans s4
      refine ⟨_, rfl, _, rfl, _, _, rfl, rfl, _, rfl, a, ns, _, 1 + rl, rfl, s34.seq hS, hlen, by omega, by omega, by omega, by omega, fun H5 rw s5 w0 w1 => ?_⟩
      have s35 := s34.trans s5
      refine ⟨_, rfl, _, rfl, _, _, rfl, rfl, _, rfl, _, _, rfl, rfl, a, ns, _, 3 - (j : Int), rfl, s35.seq hS, hlen, by omega, by omega, by omega, by omega, fun H6 rs s6 q0 q1 => ?_⟩
      refine ⟨_, rfl, _, rfl, rfl, _, rfl, ?_⟩
      have s36 := s35.trans s6
      -- the kind's word
      have rest : ∀ (wy : Option Int), (∀ x, wy = some x → 1 ≤ x ∧ x < 1 + rl) →
          ∀ p7 H7, Same H6 H7 → H7 p7 = some (.tup [.int rs, .int (1 + rl), oV wy]) → ∀ p8 H8, Same H7 H8 → H8 p8 = some (.tup [.str "add", .str "put"]) → ∃ nm, atI [V.str "add", V.str "put"] (j : Int) = some (.str nm) ∧
            (Same H (upd H8 D (.dK (putK kvs (Sum.inr nm : Key) (.ref p7)))) ∧ ∃ kvs' ks', (upd H8 D (.dK (putK kvs (Sum.inr nm : Key) (.ref p7)))) D = some (.dK kvs') ∧ KvOk (upd H8 D (.dK (putK kvs (Sum.inr nm : Key) (.ref p7)))) kvs' ks' ∧
              ks'.map (·.1) = nms.take (j + 1) ∧ ∀ q ∈ ks', KiOk q.2 ∧ q.2.len ≤ 3) ∧ DPut H8 D (kV (Sum.inr nm : Key)) (.ref p7) (upd H8 D (.dK (putK kvs (Sum.inr nm : Key) (.ref p7)))) := by
        intro wy hwy p7 H7 s7 h7 p8 H8 s8 h8
        obtain ⟨nm, hnmj⟩ : ∃ nm, nms[j]? = some nm := by
          match j, hj2 with
          | 0, _ => exact ⟨_, rfl⟩
          | 1, _ => exact ⟨_, rfl⟩
        have hat : atI [V.str "add", V.str "put"] (j : Int) = some (.str nm) := by
          refine atI_nat ?_
          show (nms.map V.str)[j]? = _
          rw [List.getElem?_map, hnmj]; rfl
        have hD8 : H8 D = some (.dK kvs) := s8 _ _ (s7 _ _ (s6 _ _ (s5 _ _ (s4 _ _ hD))))
        have hkv8 : KvOk H8 kvs ks := hkv.mono ((((s4.trans s5).trans s6).trans s7).trans s8).tups
        have hkl : kvs.length ≤ 2 := by
          rw [hkv.len, ← List.length_map (as := ks) (·.1), hnm, List.length_take]; show min j 2 ≤ 2; omega
        have hnot : valV kvs (Sum.inr nm : Key) = none := by
          refine valV_none ?_
          rw [hkv.keys, hnm]
          intro z
          obtain ⟨y, hy, e⟩ := List.mem_map.mp z
          have ey : y = nm := Sum.inr.inj e
          rw [ey] at hy
          have hj01 : j = 0 ∨ j = 1 := by omega
          rcases hj01 with e | e
          · rw [e] at hy
            exact absurd hy (by simp)
          · rw [e] at hy hnmj
            have h1 : nm = "put" := (Option.some.inj hnmj).symm
            have h2 : nm = "add" := List.mem_singleton.mp hy
            exact names_ne (h2.symm.trans h1)
        refine ⟨nm, hat, ?_, DPut.k hD8 (szl (by omega))⟩
        have tp : Tups H8 (upd H8 D (.dK (putK kvs (Sum.inr nm : Key) (.ref p7)))) := tups_dk hD8
        refine ⟨((s36.trans s7).trans s8).mut nD, _, ks ++ [(nm, ⟨rs, 1 + rl, wy⟩)], upd_same, ?_, ?_, ?_⟩
        · have h9 : KvOk (upd H8 D (.dK (putK kvs (Sum.inr nm : Key) (.ref p7)))) (kvs ++ [((Sum.inr nm : Key), V.ref p7)]) (ks ++ [(nm, ⟨rs, 1 + rl, wy⟩)]) := KvOk.snoc (hkv8.mono tp) ⟨rfl, p7, rfl, tp _ _ (s8 _ _ h7)⟩
          rw [← putK_new _ hnot] at h9
          exact h9
        · rw [List.map_append, hnm, take_succ_at hnmj]; rfl
        · intro q hq
          rcases List.mem_append.mp hq with hq | hq
          · exact hki q hq
          · rw [List.mem_singleton] at hq
            subst hq
            exact ⟨⟨⟨q0, by show rs ≤ 2; omega⟩, ⟨by show 1 ≤ 1 + rl; omega, by show 1 + rl ≤ 4; omega⟩, hwy⟩, by show 1 + rl ≤ 3; omega⟩
      by_cases hz : rw = 0
      · rw [show decide (V.int rw = V.int 0) = true from decide_eq_true (congrArg V.int hz)]
        refine iteT ?_
        refine rd_t3 fun p7 H7 s7 h7 => ?_
        refine ⟨_, rfl, ?_⟩
        refine rd_t2 fun p8 H8 s8 h8 => ?_
        obtain ⟨nm, hat, hfin, hput⟩ := rest none (fun x h => by cases h) p7 H7 s7 h7 p8 H8 s8 h8
        exact ⟨_, rfl, p8, _, _, _, rfl, rfl, SqT.of h8, hat, D, _, rfl, hput, hfin.1, ⟨_, _, _, _, rfl⟩, hfin.2⟩
      · rw [show decide (V.int rw = V.int 0) = false from decide_eq_false fun z => hz (V.int.inj z)]
        refine iteF ⟨_, rfl, ?_⟩
        refine rd_t3 fun p7 H7 s7 h7 => ?_
        refine ⟨_, rfl, ?_⟩
        refine rd_t2 fun p8 H8 s8 h8 => ?_
        obtain ⟨nm, hat, hfin, hput⟩ := rest (some rw) (fun x h => by cases h; omega) p7 H7 s7 h7 p8 H8 s8 h8
        exact ⟨_, rfl, p8, _, _, _, rfl, rfl, SqT.of h8, hat, D, _, rfl, hput, hfin.1, ⟨_, _, _, _, rfl⟩, hfin.2⟩
    · rintro σ' H' ⟨s3, ⟨v3, v4, v5, v6, rfl⟩, kvs, ks, hD, hkv, hnm, hki⟩
      refine ⟨_, rfl, _, rfl, _, _, rfl, rfl, a, ns, _, 2, rfl, s3.seq hS, hlen, by omega, by omega, by omega, by omega, fun H4 q1 s4 a0 a1 => ?_⟩
      have s34 := s3.trans s4
      refine ⟨_, _, rfl, rfl, _, rfl, _, rfl, _, rfl, _, _, rfl, rfl, a, ns, _, 2, rfl, s34.seq hS, hlen, by omega, by omega, by omega, by omega, fun H5 q2 s5 b0 b1 => ?_⟩
      have s35 := s34.trans s5
      refine ⟨rfl, _, rfl, _, rfl, _, _, rfl, rfl, a, ns, _, 2, rfl, s35.seq hS, hlen, by omega, by omega, by omega, by omega, fun H6 q3 s6 c0 c1 => ?_⟩
      refine ⟨rfl, ?_⟩
      refine rd_t4 fun p7 H7 s7 h7 => ?_
      have s47 := ((s4.trans s5).trans s6).trans s7
      refine k _ H7 ⟨1 + q1, ks, decide (V.int q2 = V.int 0), decide (V.int q3 = V.int 0)⟩ (s3.trans s47) ⟨p7, D, kvs, rfl, h7, s47 _ _ hD, hkv.mono s47.tups, ?_, fun q hq => (hki q hq).1⟩ (by show 1 ≤ 1 + q1; omega) (by show 1 + q1 ≤ 2; omega) (fun q hq => (hki q hq).2)
      have hr2 : (1 + r).toNat = 1 ∨ (1 + r).toNat = 2 := by omega
      rcases hr2 with e | e <;> rw [e] at hnm
      · exact .inl hnm
      · exact .inr hnm
end
end K3
namespace K3
open PySem PySem.Spec PyProof.Rows L2
def tTupN (t : TA) : TE := fun σ H Q => t σ H fun xs H1 => rTup xs H1 Q
theorem ptupN {X : Cx} {es : List Expr} {t : TA} {x1 : Nat} {pos : Pos} (h : PA X es t) : PE X (.Tuple es x1 pos) (tTupN t) := ptup h
theorem atI_mid {α : Type} {xs : List α} {i : Int} {j : Nat} {v : α} (e : i = (j : Int)) (h : xs[j]? = some v) : atI xs i = some v := by rw [e]; exact atI_nat h
def SrcAt (H : Hp) (v : V) (s : List Int) : Prop := ∃ a, v = .ref a ∧ H a = some (.tup (s.map V.int))
theorem SrcAt.mono {H H' : Hp} (t : Tups H H') {v : V} {s : List Int} (h : SrcAt H v s) : SrcAt H' v s := let ⟨a, h1, h2⟩ := h; ⟨a, h1, t _ _ h2⟩
theorem InAt.mk {H : Hp} {v : V} {s : List Int} {p : Addr} {kd : Str} {g : Int} (h : SrcAt H v s) (hp : H p = some (.tup [.str kd, .int g, v])) : InAt H (.ref p) ⟨kd, g, s⟩ := by
  obtain ⟨b, rfl, hb⟩ := h
  exact ⟨p, b, rfl, hp, hb⟩
structure SrcOk (n : Int) (m : Nat) (s : List Int) : Prop where
  r : ∀ x ∈ s, 0 ≤ x ∧ x < n
  l : s.length ≤ m
section
variable {P : Program} {w : World} {K : PySem.W.Frag} {mg : Str → Option Value} {base : Heap} {C : Addr}
/-! ### _law_pipe -/
def spPipe (P : Program) (w : World) (C : Addr) : Sp := fun vs H Q _ => ∃ (v : V) (t : PI0), vs = [v] ∧ ToldF H v t ∧ 1 ≤ t.regs ∧ t.regs ≤ 4 ∧ ∀ H' p kdA c, Same H H' → PipeAt C H' p kdA c t → KdD H' kdA t.ks → CacheAt P w t.ks H' c [] → H c = none → Q (.ref p) H'
theorem scPipe : FnScope ["told"] ["told"] (defScope sPipe) := ⟨rfl, rfl, rfl, by decide +kernel, rfl, by decide +kernel, by decide +kernel⟩
theorem ok_pipe {f fI : Addr} {fd fdI : FuncData} (F : Fun K "_law_pipe" "_law_pipe" sPipe f fd) (TC : TxtC K mg C) (M : Mk K C fI) (FI : FnOk P w K mg base CX0 4 fI fdI ["self", "registers", "kinds", "holds", "orders"] (spInit P w C))
    (bI : KBn K fdI ["self", "registers", "kinds", "holds", "orders"] 3 ["holds", "orders"] (fun us ws => us ++ ws) (fun vs zs => vs ++ zs)) : FnOk P w K mg base CX0 6 f fd ["told"] (spPipe P w C) := by
  refine F.ok scPipe (fun vs H Q E h => ?_) (fun cdv A outer s H vs Q E hr h => ?_)
  · obtain ⟨v, t, rfl, _⟩ := h
    rfl
  · obtain ⟨v, t, rfl, ⟨a, d, kvs, rfl, ha, hd, hkv, kok⟩, r1, r4, k⟩ := h
    refine ⟨_, pss_one (ps_ret (pe_makeK (n := 2) M FI hr (by rfl) TC.mgC bI pass0 (pa_cons (pe_ix ix_tup (pv 0) pe_int (fun _ _ => rfl)) (pa_cons (pe_ix ix_tup (pv 0) pe_int (fun _ _ => rfl)) pa_nil))
      (pk_cons (pe_ix ix_tup (pv 0) pe_int (fun _ _ => rfl)) (pk_cons (pe_ix ix_tup (pv 0) pe_int (fun _ _ => rfl)) pk_nil)))), ?_⟩
    refine ⟨_, rfl, a, _, 0, _, rfl, rfl, SqT.of ha, rfl, _, rfl, a, _, 1, _, rfl, rfl, SqT.of ha, rfl, _, rfl, a, _, 2, _, rfl, rfl, SqT.of ha, rfl, _, rfl, a, _, 3, _, rfl, rfl, SqT.of ha, rfl, rfl, rfl, fun x dx nx ndx nex => ?_⟩
    have s1 : Same H (upd (upd H dx (.own x)) x (.ins C dx [])) := fun b o e => by
      rw [upd_ne (ne_of_none e nx), upd_ne (ne_of_none e ndx)]; exact e
    refine ⟨x, dx, d, t, kvs, rfl, upd_same, r1, r4, s1 _ _ hd, hkv.mono s1.tups, kok, fun H' kdA c bt hp hk hc hn => ⟨rfl, ?_⟩⟩
    exact k H' x kdA c (fun b o e => bt b o (ne_of_none e nx) (s1 b o e)) hp hk hc (s1.free hn)
end
end K3
namespace K3
open PySem PySem.Spec PyProof.Rows L2
/-! ### _law_plain -/
def putAt (at_ : Nat) (g : Int) (i : Nat) (b : Int) : Int := if (i : Int) = g then (at_ : Int) else b
def lplainF : Nat → List Int → List Ins → List (List Int) × List Int
  | _, ends, [] => ([], ends)
  | at_, ends, i :: is =>
    let q := lplainF (at_ + 1) (ends.mapIdx (putAt at_ i.goal)) is
    ((i.srcs.map fun s => ends[s.toNat]?.getD 0) :: q.1, q.2)
def lplainS (ti : PI0) (is : List Ins) : List (List Int) × List Int := lplainF 0 (List.replicate ti.regs.toNat (-1)) is
theorem mapIdx_take {α β : Type} {g : Nat → α → β} {l : List α} {i : Nat} {x : α} (h : l[i]? = some x) : (l.take (i + 1)).mapIdx g = (l.take i).mapIdx g ++ [g i x] := by
  rw [take_succ_at h, List.mapIdx_append, take_len_at h]
  simp
section
variable {P : Program} {w : World} {K : PySem.W.Frag} {mg : Str → Option Value} {base : Heap} {C : Addr}
def spLPlain (ti : PI0) : Sp := fun vs H Q _ => ∃ (v : V) (a : Addr) (is : List Ins), vs = [v, .ref a] ∧ ToldAt H v ti ∧ ProgAt H a is ∧ is.length ≤ 100 ∧ (∀ i ∈ is, IsIns ti i) ∧ 1 ≤ ti.regs ∧ ti.regs ≤ 4 ∧
  ∀ (r : Addr) H', Same H H' → PlainAt H' r (lplainS ti is).1 (lplainS ti is).2 → Q (.ref r) H'
abbrev nLP : List Str := ["told", "program", "reads", "last", "place", "one", "source", "goal", "before"]
theorem scLP : FnScope nLP ["told", "program"] (defScope sLPlain) := ⟨rfl, rfl, rfl, by decide +kernel, rfl, by decide +kernel, by decide +kernel⟩
theorem ok_lplain {ti : PI0} {f : Addr} {fd : FuncData} (F : Fun K "_law_plain" "_law_plain" sLPlain f fd) (T : Txt K mg) : FnOk P w K mg base CX0 1 f fd ["told", "program"] (spLPlain ti) := by
  refine F.ok scLP (fun vs H Q E h => ?_) (fun cdv A outer s H vs Q E hr h => ?_)
  · obtain ⟨v, a, is, rfl, _⟩ := h
    rfl
  · obtain ⟨v, a, is, rfl, ⟨ta, kdA, rfl, hta, hkd⟩, hprog, hsz, hok, r1, r4, k⟩ := h
    have nd := scLP.nd
    refine ⟨_, pss_cons (ps_asg (ptup (pa_cons (plst pa_nil) (pa_cons (pe_op L2.op_rep (plst (pa_cons (pe_un un_neg pe_int) pa_nil)) (pe_ix (ixT K) (pv 0) pe_int (fun _ _ => rfl))) pa_nil))) (pg_tup (by rfl) (pgs_cons (pg_name (i := 2) nd rfl (.inl rfl)) (pgs_cons (pg_name (i := 3) nd rfl (.inr rfl)) pgs_nil))))
      (pss_cons (ps_for PassesOwn.never rfl (pi_enum (by rfl) T.enumerate (pa_cons (pv 1) pa_nil)) (pg_tup (by rfl) (pgs_cons (pg_name (i := 4) nd rfl (.inr rfl)) (pgs_cons (pg_name (i := 5) nd rfl (.inr rfl)) pgs_nil)))
        (pss_cons (ps_expr (pe_bm PySem.F.plainAttrs_list PySem.F.slot_list_append PySem.F.type_list_append mt_append (pv 2) (pa_cons
            (pe_callTy call_tuple_of (by rfl) T.tuple (by decide +kernel) (pa_cons
              (pe_lc (own := [("source", 6)]) (g := gName 6) (by rfl) nd (pi_tup (pe_ix (ixT K) (pv 5) pe_int (fun _ _ => rfl))) (blkOk_by (N := nLP) (sc := defScope sLPlain) (by decide +kernel))
                (fun _ _ _ _ _ => pg_name (i := 6) nd rfl (.inl rfl)) (fun _ _ _ _ _ => pts_nil)
                (fun _ _ _ _ _ => pe_ix (ixL K) (pv 3) (pv 6) (fun _ _ => rfl))) pa_nil)) pa_nil)))
        (pss_one (ps_set (i := 3) nd rfl (.inr rfl) (pe_lc (own := [("goal", 7), ("before", 8)]) (by rfl) nd (pi_enum (by rfl) T.enumerate (pa_cons (pv 3) pa_nil)) (blkOk_by (N := nLP) (sc := defScope sLPlain) (by decide +kernel))
            (fun _ _ _ _ _ => pgT2 K 7 8 nd) (fun _ _ _ _ _ => pts_nil)
            (fun _ _ _ _ _ => pe_ifExp (pt_cmpR op_eq (pv 7) (pe_ix (ixT K) (pv 5) pe_int (fun _ _ => rfl)) (nomark _)) (pv 4) (pv 8)))))))
      (pss_one (ps_ret (ptup (pa_cons (pv 2) (pa_cons (pv 3) pa_nil)))))), ?_⟩
    refine rd_l0 fun B2 H1 n1 s1 hB2 => ?_
    refine ⟨_, rfl, ?_⟩
    refine rd_l1 fun q1 H2 n2 s2 e1 => ?_
    have s12 := s1.trans s2
    refine ⟨_, rfl, ta, _, 0, _, rfl, rfl, SqT.of (s12 _ _ hta), rfl, ?_⟩
    refine ⟨q1, ti.regs, _, rfl, rfl, e1, by omega, by omega, (by show 1 * ti.regs.toNat ≤ sizeLine; exact sz (by omega)), fun B1 n3 => ?_⟩
    rw [flat_rep]
    have s3 := same_upd (o := HO.lst (List.replicate ti.regs.toNat (V.int (-1)))) n3
    refine rd_t2 fun tp H4 s4 htp => ?_
    refine ⟨tp, _, rfl, SqT.of htp, rfl, _, _, rfl, _, _, rfl, rfl, ?_⟩
    have hB1 : H4 B1 = some (.lst (List.replicate ti.regs.toNat (V.int (-1)))) := s4 _ _ upd_same
    have s04 := (s12.trans s3).trans s4
    have nB2 : H B2 = none := n1
    have hB2' : H4 B2 = some (.lst []) := s4 _ _ (s3 _ _ (s2 _ _ hB2))
    have b12 : ∀ {x : Addr} {H' : Hp} {o : HO}, H' x = none → H' B2 = some o → x ≠ B2 := fun h1 h2 z => by rw [z, h2] at h1; cases h1
    obtain ⟨ys, ha, hal⟩ := id hprog
    have nB12 : B1 ≠ B2 := b12 n3 (s2 _ _ hB2)
    let σ0 : Addr → Option V → Option V → L2.St := fun l v4 v5 => [some (.ref ta), some (.ref a), some (.ref B2), some (.ref l), v4, v5, none, none, none]
    refine ⟨_, rfl, a, ys, rfl, SqL.of (s04 _ _ ha), for_it (walk_enum (xs := ys)) (fun j σ' H' => ∃ l v4 v5 ends zs, σ' = σ0 l v4 v5 ∧ Same H H' ∧ H' l = some (.lst (ends.map V.int)) ∧ ends.length = ti.regs.toNat ∧ H' B2 = some (.lst zs) ∧ l ≠ B2 ∧
        ∃ rss, Al (TiAt H') zs rss ∧ rss.length = j ∧ lplainS ti is = (rss ++ (lplainF j ends (is.drop j)).1, (lplainF j ends (is.drop j)).2))
      ⟨B1, none, none, List.replicate ti.regs.toNat (-1), [], rfl, s04, by rw [hB1, List.map_replicate], by simp, hB2', nB12, [], Al.nil, rfl, by rw [List.drop_zero]; rfl⟩
      (fun j σ' H' _ hh => by obtain ⟨l, v4, v5, ends, zs, _, s, _⟩ := hh; exact SqL.of (s _ _ ha)) ?_ ?_⟩
    · rintro j y σ' H' H'' hj ⟨l, v4, v5, ends, zs, rfl, sH, hE, hEl, hZ, nl, rss, hAl, hrl, hpl⟩ ⟨Tt, x1, x2, rfl, nT, rfl, e1', e2'⟩
      cases e1'
      obtain ⟨ins, hij, hin⟩ := hal.at e2'
      have hjl : j < is.length := (List.getElem?_eq_some_iff.mp hij).1
      have iok := hok ins (List.mem_of_getElem? hij)
      have edrop : is.drop j = ins :: is.drop (j + 1) := by
        rw [List.drop_eq_getElem_cons hjl]
        congr 1
        rw [List.getElem?_eq_getElem hjl] at hij
        exact Option.some.inj hij
      rw [edrop] at hpl
      have sT := same_upd (o := HO.tup [V.int (j : Nat), x2]) nT
      have sHT := sH.trans sT
      obtain ⟨ai, bi, rfl, hai, hbi⟩ := hin.mono sHT.tups
      refine ⟨Tt, _, rfl, SqT.of upd_same, rfl, _, _, rfl, _, _, rfl, rfl, ?_⟩
      have e1 := sT _ _ hE
      have e2 := sT _ _ hZ
      refine ⟨_, rfl, .inl ⟨rfl, _, SqL.of e2⟩, ?_⟩
      let rs := ins.srcs.map fun s => ends[s.toNat]?.getD 0
      refine ⟨_, rfl, ai, _, 2, _, rfl, rfl, SqT.of hai, rfl, bi, rfl, ⟨_, SqT.of hbi⟩, fun D nD => lc_tup (K := K) (xs := ins.srcs.map V.int) (fun j2 G4 => Same (upd H' Tt (.tup [V.int (j : Nat), V.ref ai])) G4 ∧ G4 D = some (.lst ((rs.take j2).map V.int)))
          ⟨same_upd nD, upd_same⟩ (fun j2 G4 _ hh => SqT.of (hh.1 _ _ hbi)) ?_ ?_⟩
      · rintro j2 y2 G4 hj2 ⟨s4', hD⟩
        obtain ⟨g, hsg, rfl⟩ := map_at hj2
        obtain ⟨g0, g1⟩ := iok.srcs g (List.mem_of_getElem? hsg)
        obtain ⟨gn, rfl⟩ := Int.eq_ofNat_of_zero_le g0
        have hgl : gn < ends.length := by omega
        have hge : ends[gn]? = some ends[gn] := List.getElem?_eq_getElem hgl
        refine ⟨rfl, ?_⟩
        refine ⟨_, rfl, _, rfl, l, _, _, _, rfl, rfl, SqL.of (s4' _ _ e1), atI_nat (v := V.int ends[gn]) (by rw [List.getElem?_map, hge]; rfl), _, hD, ?_, s4'.mut nD, ?_⟩
        · rw [List.length_map, List.length_take]
          have := iok.len
          exact szl (by show min j2 (ins.srcs.map _).length ≤ 100000; rw [List.length_map]; omega)
        · have hrj : rs[j2]? = some ends[gn] := by
            show (ins.srcs.map _)[j2]? = _
            rw [List.getElem?_map, hsg]
            show some (ends[gn]?.getD 0) = _
            rw [hge]; rfl
          rw [upd_same, map_take_succ hrj]
      · rintro G4 ⟨s4', hD⟩
        rw [List.length_map, show ins.srcs.length = rs.length by simp [rs], List.take_length] at hD
        refine ⟨D, _, rfl, .inl ⟨SqL.of hD, fun lt hlt => ?_⟩⟩
        have s5 := same_upd (o := HO.tup (rs.map V.int)) hlt
        have s45 := s4'.trans s5
        have e2' := s45 _ _ e2
        have e1' := s45 _ _ e1
        refine ⟨B2, zs, _, rfl, rfl, e2', (by rw [hAl.1, hrl]; exact szl (by omega)), ?_⟩
        let G6 := upd (upd G4 lt (.tup (rs.map V.int))) B2 (.lst (zs ++ [V.ref lt]))
        have t6 : Tups (upd G4 lt (.tup (rs.map V.int))) G6 := tups_lst (o := HO.lst (zs ++ [V.ref lt])) e2'
        have s06 : Same H G6 := (sHT.trans s45).mut nB2
        have hAl' : Al (TiAt G6) (zs ++ [V.ref lt]) (rss ++ [rs]) :=
          Al.snoc (hAl.mono fun _ _ q => TiAt.mono t6 (TiAt.mono (sT.trans s45).tups q)) ⟨lt, rfl, t6 _ _ upd_same⟩
        have f1 : G6 l = some (.lst (ends.map V.int)) := by show upd _ B2 _ l = _; rw [upd_ne nl]; exact e1'
        have f2 : G6 B2 = some (.lst (zs ++ [V.ref lt])) := upd_same
        have hai' := t6 _ _ (s45.tups _ _ hai)
        -- last = [..]
        refine ⟨_, rfl, l, _, rfl, SqL.of f1, fun D2 nD2 => lc_it (walk_enum (xs := ends.map V.int)) (fun j2 G7 => Same G6 G7 ∧ G7 D2 = some (.lst (((ends.take j2).mapIdx (putAt j ins.goal)).map V.int)))
          ⟨same_upd nD2, upd_same⟩ (fun j2 G7 _ hh => SqL.of (hh.1 _ _ f1)) ?_ ?_⟩
        · rintro j2 y2 G7 G8 hj2 ⟨s7, hD7⟩ ⟨T2, z1, z2, rfl, nT2, rfl, g1, g2⟩
          cases g1
          obtain ⟨x, hx, rfl⟩ := map_at g2
          have sT2 := same_upd (o := HO.tup [V.int (j2 : Nat), V.int x]) nT2
          have s78 := s7.trans sT2
          refine ⟨T2, _, rfl, SqT.of upd_same, rfl, _, _, rfl, _, _, rfl, rfl, rfl, ?_⟩
          refine ⟨_, rfl, _, rfl, ai, _, 1, _, rfl, rfl, SqT.of (s78 _ _ hai'), rfl, rfl, _, rfl, ?_⟩
          have hln : (((ends.take j2).mapIdx (putAt j ins.goal)).map V.int).length < sizeLine := by
            rw [List.length_map, List.length_mapIdx, List.length_take]; exact szl (by omega)
          rw [dec_int]
          by_cases hg : ((j2 : Nat) : Int) = ins.goal
          · rw [decide_eq_true hg]
            refine iteT ⟨_, rfl, _, sT2 _ _ hD7, hln, s78.mut nD2, ?_⟩
            rw [upd_same, mapIdx_take hx, List.map_append]
            show _ = some (HO.lst (_ ++ [V.int (putAt j ins.goal j2 x)]))
            unfold putAt; rw [if_pos hg]
          · rw [decide_eq_false hg]
            refine iteF ⟨_, rfl, _, sT2 _ _ hD7, hln, s78.mut nD2, ?_⟩
            rw [upd_same, mapIdx_take hx, List.map_append]
            show _ = some (HO.lst (_ ++ [V.int (putAt j ins.goal j2 x)]))
            unfold putAt; rw [if_neg hg]
        · rintro G7 ⟨s7, hD7⟩
          rw [List.length_map, List.take_length] at hD7
          have hstep : lplainS ti is = ((rss ++ [rs]) ++ (lplainF (j + 1) (ends.mapIdx (putAt j ins.goal)) (is.drop (j + 1))).1, (lplainF (j + 1) (ends.mapIdx (putAt j ins.goal)) (is.drop (j + 1))).2) := by
            rw [hpl]
            show (rss ++ (rs :: _), _) = _
            rw [List.append_assoc]; rfl
          refine ⟨D2, _, _, ends.mapIdx (putAt j ins.goal), _, rfl, s06.trans s7, hD7, by rw [List.length_mapIdx]; exact hEl, s7 _ _ f2, (fun z => by rw [z, upd_same] at nD2; cases nD2), rss ++ [rs], hAl'.mono fun _ _ q => TiAt.mono s7.tups q, by rw [List.length_append, hrl]; rfl, hstep⟩
    · rintro σ' H' ⟨l, v4, v5, ends, zs, rfl, sH, hE, hEl, hZ, nl, rss, hAl, hrl, hpl⟩
      rw [hal.1, List.drop_length] at hpl
      have hpl' : lplainS ti is = (rss, ends) := by rw [hpl]; show (rss ++ [], _) = _; rw [List.append_nil]; rfl
      refine ⟨_, rfl, _, rfl, ?_⟩
      refine rd_t2 fun r HZ sZ hr' => ?_
      refine k r HZ (sH.trans sZ) ?_
      rw [hpl']
      exact ⟨B2, l, zs, hr', sZ _ _ hZ, hAl.mono fun _ _ q => TiAt.mono sZ.tups q, sZ _ _ hE⟩
end
end K3
namespace K3
open PySem PySem.Spec PyProof.Rows L2
/-! ### _law_played -/
def okWs (ks : KT) (ws : List W) : Bool := (ws.all fun w => (find ks w.kind).isSome) && decide (ws.length ≤ 100)
theorem okWs.ok {ks : KT} {ws : List W} (h : okWs ks ws = true) : WsOk ks ws := by
  unfold okWs at h
  simp only [Bool.and_eq_true, List.all_eq_true, decide_eq_true_eq] at h
  exact ⟨fun w hw => Option.isSome_iff_exists.mp (h.1 w hw), h.2⟩
def lwaitF (ti : PI0) (ws : List W) (i : Ins) : Nat → Int → Option (Nat × Int)
  | 0, _ => none
  | f + 1, t => if heldW ti t ws i then (lwaitF ti ws i f (t + 1)).map (fun q => (q.1 + 1, q.2)) else some (0, t)
def nextW (at_ : Nat) (t : Int) (i : Ins) (ws : List W) : List W := if 0 ≤ i.goal then ws ++ [⟨at_, i.kind, i.goal, t⟩] else ws
def lplayF (ti : PI0) : Nat → List W → Int → List Ins → Option (List Int × List (List Int) × List W × Int)
  | _, ws, t, [] => some ([], [], ws, t)
  | at_, ws, t, i :: is => if okWs ti.ks ws && okIn ti.ks ti.regs.toNat i then (match lwaitF ti ws i 20 t with
    | some (n, t') => (match lplayF ti (at_ + 1) (nextW at_ t' i ws) (t' + 1) is with
      | some (hs, rss, z, te) => some ((n : Int) :: hs, (i.srcs.map fun s => readOf (kd ti.ks) t' (near ws s)) :: rss, z, te)
      | none => none)
    | none => none) else none
theorem lplayF_cons {ti : PI0} {at_ : Nat} {ws : List W} {t : Int} {i : Ins} {is : List Ins} {hs : List Int} {rss : List (List Int)} {z : List W} {te : Int} (h : lplayF ti at_ ws t (i :: is) = some (hs, rss, z, te)) :
    okWs ti.ks ws = true ∧ okIn ti.ks ti.regs.toNat i = true ∧ ∃ n t' hs' rss', lwaitF ti ws i 20 t = some (n, t') ∧ lplayF ti (at_ + 1) (nextW at_ t' i ws) (t' + 1) is = some (hs', rss', z, te) ∧ hs = (n : Int) :: hs' ∧ rss = (i.srcs.map fun s => readOf (kd ti.ks) t' (near ws s)) :: rss' := by
  unfold lplayF at h
  split at h
  · rename_i hok
    rw [Bool.and_eq_true] at hok
    refine ⟨hok.1, hok.2, ?_⟩
    cases h1 : lwaitF ti ws i 20 t with
    | none => rw [h1] at h; cases h
    | some q =>
      obtain ⟨n, t'⟩ := q
      rw [h1] at h
      simp only [] at h
      cases h2 : lplayF ti (at_ + 1) (nextW at_ t' i ws) (t' + 1) is with
      | none => rw [h2] at h; cases h
      | some q =>
        obtain ⟨hs', rss', z', te'⟩ := q
        rw [h2] at h
        cases h
        exact ⟨n, t', hs', rss', rfl, h2, rfl, rfl⟩
  · cases h
def lplayS (ti : PI0) (is : List Ins) : Option (List Int × List (List Int) × List Int) := match lplayF ti 0 [] 0 is with
  | some (hs, rss, z, te) => if okWs ti.ks z then some (hs, rss, (List.range ti.regs.toNat).map fun g => plc (lastL (kd ti.ks) (te + 9) (near z (g : Nat)))) else none
  | none => none
section
variable {P : Program} {w : World} {K : PySem.W.Frag} {mg : Str → Option Value} {base : Heap} {C : Addr}
/-- a triple of lists -/
def LPAt (H : Hp) (p : Addr) (hs : List Int) (rss : List (List Int)) (es : List Int) : Prop := ∃ a b c ys, H p = some (.tup [.ref a, .ref b, .ref c]) ∧ H a = some (.lst (hs.map V.int)) ∧ H b = some (.lst ys) ∧ Al (TiAt H) ys rss ∧ H c = some (.lst (es.map V.int))
def spLPlayed (ti : PI0) : Sp := fun vs H Q _ => ∃ (v : V) (a : Addr) (is : List Ins) (hs : List Int) (rss : List (List Int)) (es : List Int), vs = [v, .ref a] ∧ ToldAt H v ti ∧ ProgAt H a is ∧ is.length ≤ 100 ∧ 1 ≤ ti.regs ∧ ti.regs ≤ 4 ∧ lplayS ti is = some (hs, rss, es) ∧
  ∀ (r : Addr) H', Same H H' → LPAt H' r hs rss es → Q (.ref r) H'
abbrev nLY : List Str := ["told", "program", "writers", "held", "reads", "tick", "place", "one", "ticks", "source", "ends", "goal"]
theorem scLY : FnScope nLY ["told", "program"] (defScope sLPlayed) := ⟨rfl, rfl, rfl, by decide +kernel, rfl, by decide +kernel, by decide +kernel⟩
theorem ok_lplayed {ti : PI0} {f fH fR fL : Addr} {fd fdH fdR fdL : FuncData} (F : Fun K "_law_played" "_law_played" sLPlayed f fd) (T : Txt K mg)
    (DH : Dfn P w K mg base "_law_held" 2 ["told", "writers", "one", "tick"] (spLHeld ti) fH fdH) (DR : Dfn P w K mg base "_law_read" 3 ["told", "writers", "source", "tick"] (spRead ti) fR fdR)
    (DL : Dfn P w K mg base "_law_last" 2 ["told", "writers", "goal", "tick"] (spLast ti) fL fdL) : FnOk P w K mg base CX0 4 f fd ["told", "program"] (spLPlayed ti) := by
  refine F.ok scLY (fun vs H Q E h => ?_) (fun cdv A outer s H vs Q E hr h => ?_)
  · obtain ⟨v, a, is, hs, rss, es, rfl, _⟩ := h
    rfl
  · obtain ⟨v, a, is, hs, rss, es, rfl, htold, hprog, hsz, r1, r4, hplay, k⟩ := h
    have nd := scLY.nd
    have hr2 : Room 2 _ := hr.mono (by decide)
    have hr3 : Room 3 _ := hr.mono (by decide)
    refine ⟨_, pss_cons (ps_asg (ptup (pa_cons (plst pa_nil) (pa_cons (plst pa_nil) (pa_cons (plst pa_nil) (pa_cons pe_int pa_nil))))) (pg_tup (by rfl) (pgs_cons (pg_name (i := 2) nd rfl (.inr rfl)) (pgs_cons (pg_name (i := 3) nd rfl (.inl rfl)) (pgs_cons (pg_name (i := 4) nd rfl (.inl rfl)) (pgs_cons (pg_name (i := 5) nd rfl (.inr rfl)) pgs_nil))))))
      (pss_cons (ps_for PassesOwn.never rfl (pi_enum (by rfl) T.enumerate (pa_cons (pv 1) pa_nil)) (pg_tup (by rfl) (pgs_cons (pg_name (i := 6) nd rfl (.inl rfl)) (pgs_cons (pg_name (i := 7) nd rfl (.inl rfl)) pgs_nil)))
        (pss_cons (ps_set (i := 8) nd rfl (.inl rfl) pe_int)
        (pss_cons (ps_while PassesOwn.never (pt_val (pcl DH hr2 (pa_cons (pv 0) (pa_cons (pv 2) (pa_cons (pv 7) (pa_cons (pv 5) pa_nil))))))
          (pss_one (ps_asg (ptup (pa_cons (pe_op op_add (pv 5) pe_int) (pa_cons (pe_op op_add (pv 8) pe_int) pa_nil))) (pg_tup (by rfl) (pgs_cons (pg_name (i := 5) nd rfl (.inr rfl)) (pgs_cons (pg_name (i := 8) nd rfl (.inl rfl)) pgs_nil))))))
        (pss_cons (ps_expr (pe_bm PySem.F.plainAttrs_list PySem.F.slot_list_append PySem.F.type_list_append mt_append (pv 3) (pa_cons (pv 8) pa_nil)))
        (pss_cons (ps_expr (pe_bm PySem.F.plainAttrs_list PySem.F.slot_list_append PySem.F.type_list_append mt_append (pv 4) (pa_cons
            (pe_callTy call_tuple_of (by rfl) T.tuple (by decide +kernel) (pa_cons
              (pe_lc (own := [("source", 9)]) (g := gName 9) (by rfl) nd (pi_tup (pe_ix (ixT K) (pv 7) pe_int (fun _ _ => rfl))) (blkOk_by (N := nLY) (sc := defScope sLPlayed) (by decide +kernel))
                (fun _ _ _ _ _ => pg_name (i := 9) nd rfl (.inl rfl)) (fun _ _ _ _ _ => pts_nil)
                (fun _ _ _ _ _ => pcl DR hr3 (pa_cons (pv 0) (pa_cons (pv 2) (pa_cons (pv 9) (pa_cons (pv 5) pa_nil)))))) pa_nil)) pa_nil)))
        (pss_cons (ps_if (pt_cmpR op_ge (pe_ix (ixT K) (pv 7) pe_int (fun _ _ => rfl)) pe_int (nomark _))
            (pss_one (ps_expr (pe_bm PySem.F.plainAttrs_list PySem.F.slot_list_append PySem.F.type_list_append mt_append (pv 2) (pa_cons
              (ptup (pa_cons (pv 6) (pa_cons (pe_ix (ixT K) (pv 7) pe_int (fun _ _ => rfl)) (pa_cons (pe_ix (ixT K) (pv 7) pe_int (fun _ _ => rfl)) (pa_cons (pv 5) pa_nil))))) pa_nil)))) pss_nil)
        (pss_one (ps_set (i := 5) nd rfl (.inr rfl) (pe_op op_add (pv 5) pe_int)))))))))
      (pss_cons (ps_setLc (i := 10) (own := [("goal", 11)]) (g := gName 11) (by rfl) nd rfl rfl (sw_true rfl rfl rfl (by decide +kernel)) (pi_range1 rfl T.range (pa_cons (pe_ix (ixT K) (pv 0) pe_int (fun _ _ => rfl)) pa_nil)) (blkOk_by (N := nLY) (sc := defScope sLPlayed) (by decide +kernel))
          (fun _ _ _ _ _ => pg_name (i := 11) nd rfl (.inl rfl)) (fun _ _ _ _ _ => pts_nil)
          (fun _ _ _ _ _ => pcl DL hr2 (pa_cons (pv 0) (pa_cons (pv 2) (pa_cons (pv 11) (pa_cons (pe_op op_add (pv 5) pe_int) pa_nil))))))
      (pss_one (ps_ret (ptup (pa_cons (pv 3) (pa_cons (pv 4) (pa_cons
        (pe_lc (own := [("one", 7)]) (g := gName 7) (by rfl) nd (pi_list (pv 10)) (blkOk_by (N := nLY) (sc := defScope sLPlayed) (by decide +kernel))
          (fun _ _ _ _ _ => pg_name (i := 7) nd rfl (.inl rfl)) (fun _ _ _ _ _ => pts_nil)
          (fun _ _ _ _ _ => pe_ifExp (pt_cmpR op_isN (pv 7) pe_non (nomark _)) (pe_un un_neg pe_int) (pe_ix (ixT K) (pv 7) pe_int (fun _ _ => rfl)))) pa_nil)))))))), ?_⟩
    obtain ⟨hplay', z, te, hpl, okz, rfl⟩ : ∃ (_ : True) (z : List W) (te : Int), lplayF ti 0 [] 0 is = some (hs, rss, z, te) ∧ okWs ti.ks z = true ∧ es = (List.range ti.regs.toNat).map fun g => plc (lastL (kd ti.ks) (te + 9) (near z (g : Nat))) := by
      unfold lplayS at hplay
      cases h1 : lplayF ti 0 [] 0 is with
      | none => rw [h1] at hplay; cases hplay
      | some q =>
        obtain ⟨hs', rss', z, te⟩ := q
        rw [h1] at hplay
        simp only [] at hplay
        cases h2 : okWs ti.ks z with
        | false => rw [h2] at hplay; cases hplay
        | true => rw [h2, if_pos rfl] at hplay; cases hplay; exact ⟨True.intro, z, te, rfl, h2, rfl⟩
    obtain ⟨ta, kdA, rfl, hta, hkd⟩ := id htold
    refine rd_l0 fun BW H1 n1 s1 h1 => ?_
    refine rd_l0 fun BH H2 n2 s2 h2 => ?_
    refine rd_l0 fun BR H3 n3 s3 h3 => ?_
    refine rd_t4 fun tp H4 s4 htp => ?_
    refine ⟨tp, _, rfl, SqT.of htp, rfl, _, _, rfl, _, _, rfl, _, _, rfl, _, _, rfl, rfl, ?_⟩
    have s04 := ((s1.trans s2).trans s3).trans s4
    have nW : H BW = none := n1
    have nH : H BH = none := s1.free n2
    have nR : H BR = none := (s1.trans s2).free n3
    have wh : BW ≠ BH := fun z => by rw [← z, h1] at n2; cases n2
    have wr : BW ≠ BR := fun z => by rw [← z, s2 _ _ h1] at n3; cases n3
    have hr' : BH ≠ BR := fun z => by rw [← z, h2] at n3; cases n3
    have hW4 : H4 BW = some (.lst []) := s4 _ _ (s3 _ _ (s2 _ _ h1))
    have hH4 : H4 BH = some (.lst []) := s4 _ _ (s3 _ _ h2)
    have hR4 : H4 BR = some (.lst []) := s4 _ _ h3
    obtain ⟨ys, ha, hal⟩ := id hprog
    let σ0 : Int → Option V → Option V → Option V → L2.St := fun t v6 v7 v8 => [some (.ref ta), some (.ref a), some (.ref BW), some (.ref BH), some (.ref BR), some (.int t), v6, v7, v8, none, none, none]
    refine ⟨_, rfl, a, ys, rfl, SqL.of (s04 _ _ ha), for_it (walk_enum (xs := ys)) (fun j σ' H' => ∃ t v6 v7 v8 ws xw zs hs' rss', σ' = σ0 t v6 v7 v8 ∧ Same H H' ∧ H' BW = some (.lst xw) ∧ Al (WrAt H') xw ws ∧ lplayF ti j ws t (is.drop j) = some (hs', rss', z, te) ∧ hs = hs.take j ++ hs' ∧ rss = rss.take j ++ rss' ∧ (hs.take j).length = j ∧ (rss.take j).length = j ∧
        H' BH = some (.lst ((hs.take j).map V.int)) ∧ H' BR = some (.lst zs) ∧ Al (TiAt H') zs (rss.take j))
      ⟨0, none, none, none, [], [], [], hs, rss, rfl, s04, hW4, Al.nil, by rw [List.drop_zero]; exact hpl, rfl, rfl, rfl, rfl, hH4, hR4, Al.nil⟩
      (fun j σ' H' _ hh => by obtain ⟨t, v6, v7, v8, ws, xw, zs, hs', rss', _, s, _⟩ := hh; exact SqL.of (s _ _ ha)) ?_ ?_⟩
    · rintro j y σ' H' H'' hj ⟨t, v6, v7, v8, ws, xw, zs, hs', rss', rfl, sH, hW, hAW, hpF, eh, er, ehl, erl, hHh, hRr, hAl⟩ ⟨Tt, x1, x2, rfl, nT, rfl, e1', e2'⟩
      cases e1'
      obtain ⟨ins, hij, hin⟩ := hal.at e2'
      have hjl : j < is.length := (List.getElem?_eq_some_iff.mp hij).1
      have edrop : is.drop j = ins :: is.drop (j + 1) := by
        rw [List.drop_eq_getElem_cons hjl]
        congr 1
        rw [List.getElem?_eq_getElem hjl] at hij
        exact Option.some.inj hij
      rw [edrop] at hpF
      obtain ⟨okw, oki, n, t', hs1, rss1, hw, hrest, rfl, rfl⟩ := lplayF_cons hpF
      have wok := okWs.ok okw
      have iok := okIn.ok oki
      have sT := same_upd (o := HO.tup [V.int (j : Nat), x2]) nT
      have sHT := sH.trans sT
      refine ⟨Tt, _, rfl, SqT.of upd_same, rfl, _, _, rfl, _, _, rfl, rfl, ?_⟩
      refine ⟨fun m σ4 G => ∃ (d cnt : Nat) (t1 : Int), lwaitF ti ws ins m t1 = some (d, t') ∧ cnt + d = n ∧ σ4 = σ0 t1 (some (.int (j : Nat))) (some x2) (some (.int (cnt : Nat))) ∧ Same (upd H' Tt (.tup [V.int (j : Nat), x2])) G,
        ⟨20, n, 0, t, hw, by omega, rfl, Same.refl _⟩, ?_⟩
      rintro m σ4 G ⟨d, cnt, t1, hw1, hcd, rfl, sG⟩
      cases m with
      | zero => cases hw1
      | succ m =>
      unfold lwaitF at hw1
      have sHG := sHT.trans sG
      have sTG := sT.trans sG
      have hWG : WsAt G BW ws := ⟨xw, sTG _ _ hW, hAW.mono fun _ _ => WrAt.mono sTG.tups⟩
      have hinG := hin.mono sHG.tups
      refine ⟨_, rfl, _, rfl, _, rfl, _, rfl, _, x2, BW, ws, ins, t1, ti.regs.toNat, rfl, htold.same sHG, hWG, wok, hinG, iok, fun G1 s5 => ⟨_, rfl, ?_⟩⟩
      have sG1 := sG.trans s5
      cases hh : heldW ti t1 ws ins with
      | true =>
        rw [hh, if_pos rfl] at hw1
        obtain ⟨⟨d', t2⟩, hw', e'⟩ := Option.map_eq_some_iff.mp hw1
        simp only [Prod.mk.injEq] at e'
        obtain ⟨rfl, rfl⟩ := e'
        refine iteT ⟨fun σ5 G5 => σ5 = σ0 (t1 + 1) (some (.int (j : Nat))) (some x2) (some (.int ((cnt + 1 : Nat) : Int))) ∧ Same (upd H' Tt (.tup [V.int (j : Nat), x2])) G5, fun σ5 G5 hN => ?_, ?_⟩
        · obtain ⟨rfl, s6⟩ := hN
          exact ⟨m, by omega, d', cnt + 1, _, hw', by omega, rfl, s6⟩
        · refine ⟨_, rfl, _, _, rfl, rfl, _, rfl, _, _, rfl, rfl, ?_⟩
          refine rd_t2 fun q G5 s6 hq => ?_
          refine ⟨q, _, rfl, SqT.of hq, rfl, _, _, rfl, _, _, rfl, rfl, ?_⟩
          exact ⟨rfl, sG1.trans s6⟩
      | false =>
        rw [hh, if_neg Bool.false_ne_true] at hw1
        cases hw1
        refine iteF ?_
        have ecn : cnt = n := by omega
        subst ecn
        have sAll := sH.trans (sT.trans sG1)
        have sHG1 := sT.trans sG1
        -- held.append(ticks)
        have g1 := sHG1 _ _ hHh
        refine ⟨_, rfl, .inl ⟨rfl, _, SqL.of g1⟩, _, rfl, BH, _, _, rfl, rfl, g1, (by rw [List.length_map, ehl]; exact szl (by omega)), ?_⟩
        let G2 := upd G1 BH (.lst ((hs.take j).map V.int ++ [V.int (cnt : Nat)]))
        have t2 : Tups G1 G2 := tups_lst g1
        have s2' : Same H G2 := sAll.mut nH
        have gW : G2 BW = some (.lst xw) := by show upd _ BH _ BW = _; rw [upd_ne wh]; exact sHG1 _ _ hW
        have gR : G2 BR = some (.lst zs) := by show upd _ BH _ BR = _; rw [upd_ne hr'.symm]; exact sHG1 _ _ hRr
        have gH : G2 BH = some (.lst ((hs.take j).map V.int ++ [V.int (cnt : Nat)])) := upd_same
        have tH2 : Tups H' G2 := sHG1.tups.trans t2
        have aW2 : Al (WrAt G2) xw ws := hAW.mono fun _ _ => WrAt.mono tH2
        obtain ⟨ai, bi, rfl, hai, hbi⟩ := hin.mono s2'.tups
        -- reads.append(..)
        refine ⟨_, rfl, .inl ⟨rfl, _, SqL.of gR⟩, ?_⟩
        let rs := ins.srcs.map fun s => readOf (kd ti.ks) t' (near ws s)
        refine ⟨_, rfl, ai, _, 2, _, rfl, rfl, SqT.of hai, rfl, bi, rfl, ⟨_, SqT.of hbi⟩, fun D nD => lc_tup (K := K) (xs := ins.srcs.map V.int) (fun j2 G4 => Same G2 G4 ∧ G4 D = some (.lst ((rs.take j2).map V.int)))
            ⟨same_upd nD, upd_same⟩ (fun j2 G4 _ hh => SqT.of (hh.1 _ _ hbi)) ?_ ?_⟩
        · rintro j2 y2 G4 hj2 ⟨s4', hD⟩
          obtain ⟨g, hsg, rfl⟩ := map_at hj2
          refine ⟨rfl, ?_⟩
          refine ⟨_, rfl, _, rfl, _, rfl, _, rfl, _, BW, ws, g, t', rfl, htold.same (s2'.trans s4'), ⟨xw, s4' _ _ gW, aW2.mono fun _ _ => WrAt.mono s4'.tups⟩, wok, _, hD, ?_, s4'.mut nD, ?_⟩
          · rw [List.length_map, List.length_take]
            have := iok.len
            exact szl (by show min j2 (ins.srcs.map _).length ≤ 100000; rw [List.length_map]; omega)
          · have hrj : rs[j2]? = some (readOf (kd ti.ks) t' (near ws g)) := by
              show (ins.srcs.map _)[j2]? = _
              rw [List.getElem?_map, hsg]; rfl
            rw [upd_same, map_take_succ hrj]
        · rintro G4 ⟨s4', hD⟩
          rw [List.length_map, show ins.srcs.length = rs.length by simp [rs], List.take_length] at hD
          refine ⟨D, _, rfl, .inl ⟨SqL.of hD, fun lt hlt => ?_⟩⟩
          have s5' := same_upd (o := HO.tup (rs.map V.int)) hlt
          have s45 := s4'.trans s5'
          have e2' := s45 _ _ gR
          refine ⟨BR, zs, _, rfl, rfl, e2', (by rw [hAl.1, erl]; exact szl (by omega)), ?_⟩
          let G6 := upd (upd G4 lt (.tup (rs.map V.int))) BR (.lst (zs ++ [V.ref lt]))
          have t6 : Tups (upd G4 lt (.tup (rs.map V.int))) G6 := tups_lst (o := HO.lst (zs ++ [V.ref lt])) e2'
          have tG6 : Tups G2 G6 := s45.tups.trans t6
          have s06 : Same H G6 := (s2'.trans s45).mut nR
          have f1 : G6 BW = some (.lst xw) := by show upd _ BR _ BW = _; rw [upd_ne wr]; exact s45 _ _ gW
          have f2 : G6 BH = some (.lst ((hs.take j).map V.int ++ [V.int (cnt : Nat)])) := by show upd _ BR _ BH = _; rw [upd_ne hr']; exact s45 _ _ gH
          have f3 : G6 BR = some (.lst (zs ++ [V.ref lt])) := upd_same
          have f4 : Al (TiAt G6) (zs ++ [V.ref lt]) (rss.take j ++ [rs]) := Al.snoc (hAl.mono fun _ _ q => TiAt.mono (tH2.trans tG6) q) ⟨lt, rfl, t6 _ _ upd_same⟩
          have f5 : Al (WrAt G6) xw ws := aW2.mono fun _ _ => WrAt.mono tG6
          have hai' := tG6 _ _ hai
          have eh1 : hs.take (j + 1) = hs.take j ++ [(cnt : Int)] := by
            have : hs[j]? = some (cnt : Int) := by
              rw [eh, List.getElem?_append_right (by omega), ehl, Nat.sub_self]; rfl
            exact take_succ_at this
          have er1 : rss.take (j + 1) = rss.take j ++ [rs] := by
            have : rss[j]? = some rs := by
              rw [er, List.getElem?_append_right (by omega), erl, Nat.sub_self]; rfl
            exact take_succ_at this
          have fin : ∀ (G9 : Hp) (xw' : List V) (ws' : List W), Same H G9 → Tups G6 G9 → G9 BW = some (.lst xw') → Al (WrAt G9) xw' ws' → ws' = nextW j t' ins ws → G9 BH = G6 BH → G9 BR = G6 BR →
              ∃ t v6 v7 v8 ws xw zs hs' rss', σ0 (t' + 1) (some (.int (j : Nat))) (some (.ref ai)) (some (.int (cnt : Nat))) = σ0 t v6 v7 v8 ∧ Same H G9 ∧ G9 BW = some (.lst xw) ∧ Al (WrAt G9) xw ws ∧ lplayF ti (j + 1) ws t (is.drop (j + 1)) = some (hs', rss', z, te) ∧ hs = hs.take (j + 1) ++ hs' ∧ rss = rss.take (j + 1) ++ rss' ∧ (hs.take (j + 1)).length = j + 1 ∧ (rss.take (j + 1)).length = j + 1 ∧
              G9 BH = some (.lst ((hs.take (j + 1)).map V.int)) ∧ G9 BR = some (.lst zs) ∧ Al (TiAt G9) zs (rss.take (j + 1)) := by
            intro G9 xw' ws' sZ tZ hw9 ha9 ew hb9 hr9
            subst ew
            refine ⟨t' + 1, _, _, _, _, xw', _, hs1, rss1, rfl, sZ, hw9, ha9, hrest, ?_, ?_, ?_, ?_, ?_, hr9.trans f3, ?_⟩
            · rw [eh1, List.append_assoc]; exact eh
            · rw [er1, List.append_assoc]; exact er
            · rw [eh1, List.length_append, ehl]; rfl
            · rw [er1, List.length_append, erl]; rfl
            · rw [hb9, f2, eh1, List.map_append]; rfl
            · rw [er1]; exact f4.mono fun _ _ q => TiAt.mono tZ q
          refine ⟨_, rfl, ai, _, 1, _, rfl, rfl, SqT.of hai', rfl, _, _, rfl, rfl, _, rfl, ?_⟩
          by_cases hg : 0 ≤ ins.goal
          · rw [show decide (0 ≤ ins.goal) = true from decide_eq_true hg]
            refine iteT ?_
            refine ⟨_, rfl, .inl ⟨rfl, _, SqL.of f1⟩, ?_⟩
            refine ⟨_, rfl, _, rfl, ai, _, 0, _, rfl, rfl, SqT.of hai', rfl, _, rfl, ai, _, 1, _, rfl, rfl, SqT.of hai', rfl, _, rfl, ?_⟩
            refine rd_t4 fun q G7 s7 hq => ?_
            have f17 := s7 _ _ f1
            refine ⟨BW, xw, _, rfl, rfl, f17, (by rw [f5.1]; exact szl (Nat.le_trans wok.sz (by decide))), ?_⟩
            have t8 : Tups G7 (upd G7 BW (.lst (xw ++ [V.ref q]))) := tups_lst f17
            refine ⟨_, rfl, _, _, rfl, rfl, ?_⟩
            refine fin _ (xw ++ [V.ref q]) (ws ++ [⟨(j : Nat), ins.kind, ins.goal, t'⟩]) ((s06.trans s7).mut nW) (s7.tups.trans t8) upd_same ?_ (by unfold nextW; rw [if_pos hg]) (by rw [upd_ne wh.symm, s7 _ _ f2, f2]) (by rw [upd_ne wr.symm, s7 _ _ f3, f3])
            exact Al.snoc (f5.mono fun _ _ q => WrAt.mono t8 (WrAt.mono s7.tups q)) ⟨q, rfl, t8 _ _ hq⟩
          · rw [show decide (0 ≤ ins.goal) = false from decide_eq_false hg]
            refine iteF ?_
            refine ⟨_, rfl, _, _, rfl, rfl, ?_⟩
            exact fin G6 xw ws s06 (fun _ _ q => q) f1 f5 (by unfold nextW; rw [if_neg hg]) rfl rfl
    · rintro σ' H' ⟨t, v6, v7, v8, ws, xw, zs, hs', rss', rfl, sH, hW, hAW, hpF, eh, er, ehl, erl, hHh, hRr, hAl⟩
      rw [hal.1, List.drop_length] at hpF
      cases hpF
      rw [hal.1] at eh er ehl erl hHh hAl
      rw [List.append_nil] at eh er
      rw [← eh] at hHh
      rw [← er] at hAl
      have wok := okWs.ok okz
      have owm : ∀ {G G' : Hp} {v : V} {o : Option W}, Tups G G' → OwAt G v o → OwAt G' v o := by
        intro G G' v o tt h
        cases o with
        | none => exact h
        | some w => exact WrAt.mono tt h
      refine ⟨_, rfl, ta, _, 0, _, rfl, rfl, SqT.of (sH _ _ hta), rfl, ti.regs, rfl, by omega, by omega, fun D nD => lc_range (n := ti.regs.toNat) (fun j2 G4 => Same H' G4 ∧ ∃ acc, G4 D = some (.lst acc) ∧ Al (OwAt G4) acc ((List.range j2).map fun g => lastL (kd ti.ks) (te + 9) (near z (g : Nat))))
        ⟨same_upd nD, [], upd_same, Al.nil⟩ ?_ ?_⟩
      · rintro j2 G4 hj2 ⟨s4', acc, hD, hacc⟩
        rw [Int.zero_add]
        refine ⟨rfl, ?_⟩
        refine ⟨_, rfl, _, rfl, _, rfl, _, rfl, _, _, rfl, rfl, _, BW, z, (j2 : Nat), te + 9, rfl, htold.same (sH.trans s4'), ⟨xw, s4' _ _ hW, hAW.mono fun _ _ => WrAt.mono s4'.tups⟩, wok, fun v' how => ?_⟩
        have hal2 : acc.length = j2 := by rw [hacc.1, List.length_map, List.length_range]
        refine ⟨acc, hD, szl (by omega), s4'.mut nD, acc ++ [v'], upd_same, ?_⟩
        have tp : Tups G4 (upd G4 D (.lst (acc ++ [v']))) := tups_lst hD
        rw [List.range_succ, List.map_append]
        exact Al.snoc (hacc.mono fun _ _ q => owm tp q) (owm tp how)
      · rintro G4 ⟨s4', acc, hD, hacc⟩
        let os := (List.range ti.regs.toNat).map fun g => lastL (kd ti.ks) (te + 9) (near z (g : Nat))
        have hol : os.length ≤ 4 := by show ((List.range ti.regs.toNat).map _).length ≤ 4; rw [List.length_map, List.length_range]; omega
        refine ⟨_, rfl, _, rfl, _, rfl, D, rfl, ⟨_, SqL.of hD⟩, fun D2 nD2 => lc_list (K := K) (xs := acc) (fun j2 G5 => Same G4 G5 ∧ G5 D2 = some (.lst (((os.take j2).map plc).map V.int)))
          ⟨same_upd nD2, upd_same⟩ (fun j2 G5 _ hh => SqL.of (hh.1 _ _ hD)) ?_ ?_⟩
        · rintro j2 y2 G5 hj2 ⟨s5, hD5⟩
          obtain ⟨o, ho, how⟩ := hacc.at hj2
          have ho' : os[j2]? = some o := ho
          have how5 := owm s5.tups how
          have hln : (((os.take j2).map plc).map V.int).length < sizeLine := by
            rw [List.length_map, List.length_map, List.length_take]; exact szl (by omega)
          refine ⟨rfl, ?_⟩
          refine ⟨_, rfl, rfl, _, rfl, ?_⟩
          cases o with
          | none =>
            have ey : y2 = .non := how5
            subst ey
            refine iteT ⟨_, rfl, _, hD5, hln, s5.mut nD2, ?_⟩
            rw [upd_same, map_take_succ ho', List.map_append]; rfl
          | some w =>
            obtain ⟨b, rfl, hb⟩ := (show WrAt G5 y2 w from how5)
            refine iteF ⟨_, rfl, b, _, 0, _, rfl, rfl, SqT.of hb, rfl, _, hD5, hln, s5.mut nD2, ?_⟩
            rw [upd_same, map_take_succ ho', List.map_append]; rfl
        · rintro G5 ⟨s5, hD5⟩
          rw [hacc.1, show ((List.range ti.regs.toNat).map fun g => lastL (kd ti.ks) (te + 9) (near z (g : Nat))).length = os.length from rfl, List.take_length] at hD5
          refine rd_t3 fun r G6 s6 hr6 => ?_
          have s46 := (s4'.trans s5).trans s6
          refine k r G6 (sH.trans s46) ⟨BH, BR, D2, zs, hr6, s46 _ _ hHh, s46 _ _ hRr, hAl.mono fun _ _ q => TiAt.mono s46.tups q, ?_⟩
          rw [s6 _ _ hD5]
          show some (HO.lst ((((List.range ti.regs.toNat).map _).map plc).map V.int)) = _
          rw [List.map_map, List.map_map, List.map_map]; rfl
end
end K3
/-! sorted(range(n), key=a lambda that reads a pair's number in a captured list) -/
namespace K3
open PySem PySem.Spec PyProof.Rows L2
section
variable {prog : Program} {w : World} {A : Around} {R : Result → Shared → Prop} {s : Shared}
/-- the words of the lambda -/
abbrev lamB (x y : Str) (p1 p2 p3 p4 p5 : Pos) (jj : Nat) : Expr := .Subscript (.Subscript (.Name x p1) (.Name y p2) p3) (.Constant (.int 0) jj p4) p5
theorem lam_price {x y qual : Str} {params : Arguments} {scope : Scope} {cl : List (Str × Addr)} {pm ctv : Value} {f c' cc ca ta : Addr} {items its : List Value} {j : Nat} {tj t0 : Tok} {k : Int} {p1 p2 p3 p4 p5 : Pos} {jj : Nat}
    (room : A.depth < recursionLimit) (hf : s.heap.get? f = some (PySem.W.kla_obj "<lambda>" qual params (lamB x y p1 p2 p3 p4 p5 jj) scope cl pm c' ctv)) (hcode : s.heap.CodeRec (.ref c') qual) (lim : s.heap.NoLimit)
    (co : scope.isCoroutine = false) (gen : scope.isGenerator = false) (kd : scope.kind = .function) (nc : ∀ z ∈ scope.names, z.2 ≠ .cell) (hy : scope.names.lookup y = some .local) (hx : scope.names.lookup x = some .free)
    (bnd : bindArgs (PySem.W.kla_fn "<lambda>" qual params (lamB x y p1 p2 p3 p4 p5 jj) scope cl pm (.ref c') ctv) ⟨[.int j tj], []⟩ = pure [(y, .int j tj)])
    (hcc : cl.lookup x = some cc) (hcell : s.heap.IsCell cc (some (.ref ca))) (hl : s.heap.IsList ca items.toArray) (hj : items[j]? = some (.ref ta)) (hj2 : j ≤ 100000) (ht : IsTup s.heap ta its.toArray) (h0 : its[0]? = some (.int k t0))
    (dx : (x == ("__debug__" : Str)) = false) (dy : (y == ("__debug__" : Str)) = false) (dc : (x == ("__classdict__" : Str)) = false)
    (fin : ∀ (h' : Heap) (tk : Nat) (t' : Tok), (∀ b o, s.heap.get? b = some o → h'.get? b = some o) → R (.ok (.ret (.int k t'))) { s with heap := h', toks := tk }) :
    codeAny (model prog w) A (.call (.ref f) ⟨[.int j tj], []⟩) R s := by
  refine PySem.W.kla_callFunE room hf rfl co gen rfl hcode ?_
  rw [bnd]
  refine wpAny_pure (wpAny_newFunctionEnv nc (fun z hz => ?_) (fun h₁ hns hsb => ⟨lim.fresh _ hsb, ?_⟩) kd)
  · rw [List.mem_singleton] at hz
    subst hz
    exact hy
  have kp : ∀ b o, s.heap.get? b = some o → h₁.get? b = some o := fun b o e => hsb.extBut b o (Nat.ne_of_lt (Heap.lt_size e)) (Heap.get?_push_of_some _ e)
  refine PySem.W.kla_codeExpr ?_
  have hcell' : h₁.IsCell cc (some (.ref ca)) := let ⟨o, ho, hd⟩ := hcell; ⟨o, kp _ _ ho, hd⟩
  refine Subscript_ (Subscript_ (wpAny_Name (wpAny_loadName_free kd hx hcc hcell' ?_ dc) dx))
  refine wpAny_Name (wpAny_loadName_local (v := .int j tj) kd hy hns ?_ ?_) dy
  · show List.lookup y [(y, Value.int j tj)] = _
    simp [List.lookup]
  have hl' : h₁.IsList ca items.toArray := hl.at fun o e => kp _ _ e
  refine item_listR hl' (by omega) (by omega) (x := .ref ta) (by simpa using hj) ?_
  refine wpAny_Constant_int ?_
  have ht' : IsTup h₁ ta its.toArray := ht.keeps kp
  have hlen : 0 < its.length := (List.getElem?_eq_some_iff.mp h0).1
  exact subscriptTail_builtinR (x := .int k t0) ht'.typeIs slot_tuple_getitem.lookup
    (getItem_tuple (j := 0) (Q := fun r s' => r = .int k t0 ∧ R (.ok (.ret r)) s') ht' (by omega) (by omega) (seqIndex_of (by omega) (by rw [List.size_toArray]; omega)) (by simpa using h0) ⟨rfl, fin _ _ _ kp⟩)
end
section
variable {prog : Program} {w : World} {A : Around} {E : Value → Shared → Prop} {s : Shared} {h₀ : Heap} {L : Addr} {m : Str → Option Value} {news : List (Addr × Obj)} {Q : Value → Shared → Prop}
/-- the ints from 0 on -/
def Cnt (n : Nat) (vs : List Value) : Prop := vs.length = n ∧ ∀ (i : Nat) (v : Value), vs[i]? = some v → ∃ t, v = .int (i : Nat) t
theorem sorted_rg {r f : Addr} {n : Nat} {kz : List Int} {t u v : Tok} (F : Fr h₀ L s.heap m) (N : News h₀ L s.heap news) (hh : A.handled = none) (hr : IsRange s.heap r 0 (n : Int) 1 t u v) (hn : n ≤ 100000) (hlen : kz.length = n)
    (turn : ∀ (vs : List Value), Cnt n vs → ∀ (i : Nat) (v : Value) (k : Int), vs[i]? = some v → kz[i]? = some k → ∀ (h : Heap) (tk : Nat) (own : List (Addr × Obj)), Fr h₀ L h m → News h₀ L h (news ++ own) →
      wpAny (model prog w) A.in1.in1 (call (.ref f) [v]) (KskEnd h₀ L m (news ++ own) k { s with heap := h, toks := tk }) (fun _ _ => False) { s with heap := h, toks := tk })
    (fin : ∀ (D : Addr) (h' : Heap) (tk : Nat) (out : Array Value) (c : Nat) (vs : List Value), Cnt n vs → Fr h₀ L h' m → News h₀ L h' ((D, seqObj "list" out c) :: news) → (∀ q ∈ news, q.1 < D) → KskOut false kz vs out.toList → Q (.ref D) { s with heap := h', toks := tk }) :
    wpAny (model prog w) A (call (.builtin "sorted") [.ref r] [(Str.ofString "key", .ref f)]) Q E s := by
  refine call_function_entry_kw kind_sorted plain_sorted entry_sorted (ksk_s1 (.ref r) (.ref f)) ?_
  unfold Builtin.«sorted»
  refine wpAny_bind (m := checkCount "sorted" 1 1 _) (wpAny_pure ?_)
  refine wpAny_bind (L2.collect_range (A := A.in1) (a := 0) (b := (n : Int)) (c := 1) (n := n) hh hr (small_one (by omega) (by omega) (by omega) (by omega)) (by simpa using rangeSize_nat 0 (n : Int)) (by omega) fun h' tk acc hk hi => ?_)
  have cnt : Cnt n acc.toList := ⟨by rw [Array.length_toList]; exact hi.1, fun i v e => by
    obtain ⟨t', e'⟩ := hi.2 i v (by rw [← Array.getElem?_toList]; exact e)
    exact ⟨t', by rw [e', Int.zero_add, Int.mul_one]⟩⟩
  refine wpAny_bind (wpAny_newList ?_ (by rw [cnt.1, sizeLine_eq]; omega))
  have hF := F.kept hk
  have hN := N.grown hk
  have hL : L < h'.objs.size := hF.ns.lt
  have hoL : (h'.push (seqObj "list" acc.toList.toArray 0)).get? h'.objs.size = some (seqObj "list" acc.toList.toArray 0) := Heap.get?_push_size _ rfl
  have kp2 : ∀ b o, h'.get? b = some o → (h'.push (seqObj "list" acc.toList.toArray 0)).get? b = some o := fun b o e => Heap.get?_push_of_some _ e
  refine wpAny_bind (wpAny_holding (wpAny_call_entry_kw slot_list_sort ⟨_, hoL, rfl⟩ entry_list_sort ?body (ksk_l1 _ _)))
  case body =>
    have et := ksk_t1 f h'.objs.size
    show wpAny (model prog w) A.in1.in1 (Builtin.«list.sort» ⟨[.ref h'.objs.size], [(Str.ofString "key", .ref f)]⟩) _ _ _
    rw [et]
    exact ksk_sortAny (s := { s with heap := h'.push (seqObj "list" acc.toList.toArray 0), toks := tk }) (kz := kz) (vs := acc.toList) (hF.kept kp2) (hN.grown kp2) hoL (Nat.ne_of_gt hL)
      (Heap.get?_none_of_le (Nat.le_trans F.above (Nat.le_of_lt hL))) (fun p hp => Nat.ne_of_lt (Heap.lt_size (hN p hp).1)) (by rw [hlen, cnt.1]) (by rw [cnt.1, sizeLine_eq]; omega) (turn acc.toList cnt)
      (fun h2 tk2 out c F2 N2 k2 => ⟨_, rfl, wpAny_pure ⟨_, rfl, fin _ h2 tk2 out c acc.toList cnt F2 N2 (fun q hq => Heap.lt_size (hN q hq).1) k2⟩⟩)
end
end K3
namespace K3
open PySem PySem.Spec PyProof.Rows L2
/-! ### all objects of a heap but the frame's and the base's -/
def allNews (base h : Heap) (L : Addr) : List (Addr × Obj) := (List.range h.objs.size).filterMap fun b => if b = L then none else match base.get? b with
  | some _ => none
  | none => (h.get? b).map fun o => (b, o)
theorem allNews_mem {base h : Heap} {L b : Addr} {o : Obj} : (b, o) ∈ allNews base h L ↔ (h.get? b = some o ∧ b ≠ L ∧ base.get? b = none) := by
  unfold allNews
  rw [List.mem_filterMap]
  constructor
  · rintro ⟨a, _, h2⟩
    split at h2
    · cases h2
    · rename_i hL
      split at h2
      · cases h2
      · rename_i hb
        obtain ⟨o', h3, h4⟩ := Option.map_eq_some_iff.mp h2
        cases h4
        exact ⟨h3, hL, hb⟩
  · rintro ⟨h1, h2, h3⟩
    refine ⟨b, List.mem_range.mpr (Heap.lt_size h1), ?_⟩
    rw [if_neg h2, h3, h1]
    rfl
theorem allNews_ok {base h : Heap} {L : Addr} : News base L h (allNews base h L) := fun p hp => by
  obtain ⟨b, o⟩ := p
  exact allNews_mem.mp hp
theorem allNews_keep {base h h' : Heap} {L : Addr} (hb : ∀ b o, base.get? b = some o → h.get? b = some o) (hb' : ∀ b o, base.get? b = some o → h'.get? b = some o) {own : List (Addr × Obj)} (N : News base L h' (allNews base h L ++ own)) : ∀ b o, b ≠ L → h.get? b = some o → h'.get? b = some o := fun b o hL e => by
  cases hq : base.get? b with
  | some o' =>
    have := hb _ _ hq
    rw [e] at this
    cases this
    exact hb' _ _ hq
  | none => exact (N (b, o) (List.mem_append_left _ (allNews_mem.mpr ⟨e, hL, hq⟩))).1
theorem ns_same {h : Heap} {a : Addr} {m m' : Str → Option Value} (x : h.Ns a m) (y : h.Ns a m') : m = m' := by
  obtain ⟨o, es, ep, h1, h2, h3, h4⟩ := x
  obtain ⟨o', es', ep', g1, g2, g3, g4⟩ := y
  rw [h1] at g1
  cases g1
  rw [h2] at g2
  cases g2
  funext z
  rw [← h4, ← g4]
theorem obj_there {P : Program} {w : World} {H : Hp} {h : Heap} {a : Addr} {o : HO} (x : ObjOk P w H h a o) : ∃ u, h.get? a = some u := by
  cases o with
  | lst xs => exact let ⟨_, _, _, _, e⟩ := x; ⟨_, e⟩
  | tup xs => exact let ⟨_, _, _, _, e, _⟩ := x; ⟨_, e⟩
  | dK kvs => exact let ⟨_, _, _, _, o, _, _, e, _⟩ := x; ⟨_, e⟩
  | dT kvs => exact let ⟨_, _, _, _, o, _, _, e, _⟩ := x; ⟨_, e⟩
  | set S n => exact let ⟨o, _, _, _, e, _⟩ := x; ⟨_, e⟩
  | ins C dx fs => exact let ⟨_, _, _, e, _⟩ := x; ⟨_, e⟩
  | own y => exact x
  | xd fs => exact let ⟨_, ⟨_, _, _, e, _⟩, _⟩ := x; ⟨_, e⟩
  | rng lo hi => exact let ⟨_, _, _, e⟩ := x; ⟨_, e⟩
  | frz ob u => exact let ⟨e, _⟩ := x; ⟨_, e⟩
  | tbl ps => exact ⟨_, show h.get? a = some _ from x⟩
  | met f y => exact ⟨_, show h.get? a = some _ from x⟩
  | ext φ => exact let ⟨_, e, _⟩ := x; e
section
variable {X : Cx} {pins : List (Addr × Obj)} {σ : L2.St} {H : Hp} {s : Shared}
/-- a new list, all else kept but the frame's own object, whose names stay -/
theorem inv_newL {m : Str → Option Value} {h' : Heap} {tk : Nat} {D : Addr} {ys : List V} {out : Array Value} {c : Nat} (I : Inv X pins σ H s) (hm : s.heap.Ns X.env.locals m) (F : Fr X.base X.env.locals h' m) (kp : ∀ b o, b ≠ X.env.locals → s.heap.get? b = some o → h'.get? b = some o)
    (nD : ∀ o, s.heap.get? D ≠ some o) (hD : h'.get? D = some (seqObj "list" out c)) (hz : ys.length ≤ sizeLine) (r : Vals ys out.toList) : Inv X pins σ (upd H D (.lst ys)) { s with heap := h', toks := tk } := by
  have nH : H D = none := by
    cases e : H D with
    | none => rfl
    | some o =>
      obtain ⟨u, eu⟩ := obj_there (I.hok D o e)
      exact absurd eu (nD u)
  have old : ∀ b o, s.heap.get? b = some o → b ≠ D := fun b o e z => nD o (by rw [← z]; exact e)
  refine I.step (g' := s.gens) (d' := s.drawn) (ch := []) (fun _ z => nomatch z) (fun b o hL _ _ e _ => kp b o hL e) (fun b o hL _ _ e _ => ⟨o.slots, kp b o hL e⟩) (fun b o _ e n => by rw [upd_ne (old b o e)]; exact n)
    (fun b o _ e => ?_) (fun b xs e => by rw [upd_ne (ne_of_none e nH)]; exact e) (fun b o u e => by rw [upd_ne (ne_of_none e nH)]; exact e) (fun b ps e => ⟨#[], by rw [upd_ne (ne_of_none e nH)]; simpa using e⟩) (fun m' hm' => by rw [← ns_same hm hm']; exact F.ns) (fun b u e => ?_) I.bare
  · by_cases hL : b = X.env.locals
    · obtain ⟨oL, _, _, hoL, _⟩ := F.ns
      rw [hL]
      exact ⟨oL, hoL⟩
    · exact ⟨o, kp b o hL e⟩
  · by_cases hb : b = D
    · subst hb
      rw [upd_same] at e
      cases e
      exact ⟨hz, out.toList, c, r, by rw [Array.toArray_toList]; exact hD⟩
    · rw [upd_ne hb] at e
      refine (I.hok b u e).stay (fun d v hd q => kp d v (fun z => ?_) q) (fun d q => by rw [upd_ne (ne_of_none q nH)]; exact q) fun d xs q => by rw [upd_ne (ne_of_none q nH)]; exact q
      have hLn := I.free
      rcases hd with hd | hd
      · rw [← hd, z, hLn] at e; cases e
      · rw [z, hLn] at hd; cases hd
end
/-! ### the reading, and the rule -/
def numV : Value → Int
  | .int i _ => i
  | _ => 0
theorem vals_snd : ∀ {ps : List (Int × Value)}, (∀ p ∈ ps, ∃ i t, p.2 = .int i t) → Vals (ps.map fun p => V.int (numV p.2)) (ps.map Prod.snd)
  | [], _ => .nil
  | p :: ps, h => by
    obtain ⟨i, t, e⟩ := h p List.mem_cons_self
    refine .cons ?_ (vals_snd fun q hq => h q (List.mem_cons_of_mem _ hq))
    show RelV (V.int (numV p.2)) p.2
    rw [e]
    exact ⟨t, rfl⟩
theorem cnt_nums {n : Nat} {vs : List Value} (h : Cnt n vs) : vs.map numV = (List.range n).map fun i => ((i : Nat) : Int) := by
  refine List.ext_getElem? fun i => ?_
  rw [List.getElem?_map, List.getElem?_map]
  cases e : vs[i]? with
  | none =>
    have : n ≤ i := by rw [← h.1]; exact List.getElem?_eq_none_iff.mp e
    rw [List.getElem?_eq_none (by rw [List.length_range]; exact this)]
    rfl
  | some v =>
    have hi : i < n := by rw [← h.1]; exact (List.getElem?_eq_some_iff.mp e).1
    obtain ⟨t, ev⟩ := h.2 i v e
    rw [List.getElem?_range hi, ev]
    rfl
/-- the places of the items of a list of pairs, by the numbers that stand first in them -/
def Places (ks : List Int) (ps : List (Int × Int)) : Prop := ps.Perm (ks.zip ((List.range ks.length).map fun i => ((i : Nat) : Int))) ∧ ps.Pairwise fun p q => p.1 ≤ q.1
theorem places_of {ks : List Int} {vs : List Value} {out : List Value} (hc : Cnt ks.length vs) (h : KskOut false ks vs out) : ∃ ps, Places ks ps ∧ Vals (ps.map fun p => V.int p.2) out ∧ ps.length = ks.length := by
  obtain ⟨ps, h1, h2, h3⟩ := h
  have hv : ∀ p ∈ ps, ∃ i t, p.2 = Value.int i t := fun p hp => by
    obtain ⟨a, b⟩ := p
    have hb := (List.of_mem_zip (h1.mem_iff.mp hp)).2
    obtain ⟨i, hi⟩ := List.mem_iff_getElem?.mp hb
    obtain ⟨t, e⟩ := hc.2 i b hi
    exact ⟨_, t, e⟩
  refine ⟨ps.map fun p => (p.1, numV p.2), ⟨?_, ?_⟩, ?_, ?_⟩
  · have := h1.map fun p => (p.1, numV p.2)
    refine this.trans (List.Perm.of_eq ?_)
    rw [← cnt_nums hc, List.zip_map_right]
    rfl
  · rw [List.pairwise_map]
    exact h3.imp fun h => by simpa using h
  · rw [List.map_map, h2]
    exact vals_snd hv
  · rw [List.length_map, h1.length_eq, List.length_zip, hc.1]
    omega
def tSortLam (T : List (Addr × Str)) (jc : Nat) (tr : TE) : TE := fun σ H Q => tr σ H fun z H1 => LamX.Tabs T H1 ∧ ∃ (r ca : Addr) (cs : List V) (ks : List Int), z = .ref r ∧ H1 r = some (.rng 0 (ks.length : Int)) ∧ ks.length ≤ 100000 ∧ σ[jc]? = some (some (.ref ca)) ∧ H1 ca = some (.lst cs) ∧ cs.length = ks.length ∧
  (∀ (i : Nat) (v : V) (k : Int), cs[i]? = some v → ks[i]? = some k → ∃ ta u, v = .ref ta ∧ H1 ta = some (.tup [.int k, u])) ∧
  ∀ (H2 : Hp) (D : Addr) (ps : List (Int × Int)), LamX.ExtN H1 H2 → LamX.Tabs T H2 → H2 D = none → Places ks ps → ps.length = ks.length → Q (.ref D) (upd H2 D (.lst (ps.map fun p => V.int p.2)))
section
variable {X : Cx}
theorem cr_range1 : CallR X (.type "range") (fun vs H Q => ∃ j, vs = [V.int j] ∧ ∀ p, H p = none → Q (.ref p) (upd H p (.rng 0 j))) := by
  intro pins s σ H vs us Q I r h
  obtain ⟨j, rfl, q⟩ := h
  obtain ⟨u1, rfl, rj⟩ := vals1 r
  obtain ⟨u, rfl⟩ := rj
  refine call_range_1 ⟨.ref s.heap.objs.size, upd H s.heap.objs.size (.rng 0 j), I.laid (fun b o e => Heap.get?_push_of_some _ e) (Nat.le_refl _) ?_, rfl, q _ (I.hok.fresh (Nat.le_refl _))⟩
  exact ⟨_, u, _, Heap.get?_push_size _ rfl⟩
theorem pe_sortLam {T : List (Addr × Str)} {c P : Addr} {x y : Str} {k jc : Nat} {params : Arguments} {scope : Scope} {er : Expr} {tr : TE} {p p1 p2 p3 p4 p5 lpos kpos pos : Pos} {jj : Nat} (hg : Gl X "sorted") (hm : X.mg "sorted" = none)
    (TB : LamX.TabB X.base X.mg c P) (hcode : X.env.code = .ref c) (hmT : (P, X.env.qual ++ "<lambda>") ∈ T) (hu : ∀ p ∈ T, p.1 = P → p.2 = X.env.qual ++ "<lambda>") (hr : Room (k + 2) X.A) (hdef : defaultsOf params X.env = ([], []))
    (S : NdefX.NScope [y, x] [y] [x] scope) (hN : X.N[jc]? = some x) (hcl : X.env.scope.names.lookup x = some .cell)
    (bnd : ∀ (q : Str) (cl : List (Str × Addr)) (pm cv ctv u : Value), bindArgs (PySem.W.kla_fn "<lambda>" q params (lamB x y p1 p2 p3 p4 p5 jj) scope cl pm cv ctv) ⟨[u], []⟩ = pure [(y, u)]) (her : PE X er tr)
    (dx : (x == ("__debug__" : Str)) = false) (dy : (y == ("__debug__" : Str)) = false) (dc : (x == ("__classdict__" : Str)) = false) (her0 : starEach (er :: []) X.env = (false, eval er X.env) :: starEach [] X.env := by rfl)
    (her1 : backTo pos (starEach (er :: []) X.env) = (false, eval er X.env) :: backTo pos (starEach [] X.env) := by rfl) (her2 : (backTo pos (starEach (er :: []) X.env)).any (·.1) = false := by rfl) :
    PE X (.Call (.Name "sorted" p) [er] [⟨some "key", .Lambda params (lamB x y p1 p2 p3 p4 p5 jj) scope lpos, kpos⟩] pos) (tSortLam T jc tr) := by
  refine ⟨fun pins s σ H Q I h => ?_⟩
  refine wpAny_Call_Name_kw (ld_blt I hg hm boot_sorted ?_)
  refine PyProof.Rows.callWith_kw (args_cons (thn (her.run pins s σ H _ I h) fun u0 s1 ⟨z, H1, I1, r1, hT, r, ca, cs, ks, ez, hrng, hk1, hσ, hca, hcl1, hcs, q⟩ => args_nil ?_) her0) her1 her2 (by rfl) (by rfl)
  subst ez
  obtain rfl : u0 = Value.ref r := r1
  have hfree : ∀ y' ∈ scope.names, y'.2 = .free → ∃ c, X.env.cells.lookup y'.1 = some c := fun y' hy e => by
    have := S.free y' hy e
    rw [List.mem_singleton] at this
    rw [this]
    exact I1.ok.has _ (.inl hcl)
  show wpAny _ _ (evalAll [do let v ← eval (.Lambda params (lamB x y p1 p2 p3 p4 p5 jj) scope lpos) X.env; standAt pos; pure v]) _ _ s1
  refine wpAny_evalAll_cons (wpAny_bind (LamX.lam_make2 I1 TB hcode hmT hu hT hdef hfree fun f c' pm ctv H2 s2 I2 eN T2 hf hfn hfr hco => wpAny_bind (wpAny_standAt (wpAny_pure (wpAny_evalAll_nil ?_)))))
  -- what is known at s2
  obtain ⟨t, u, v, hr2⟩ : ∃ t u v, IsRange s2.heap r 0 (ks.length : Int) 1 t u v := by
    have := eN r _ hrng (fun ps z => by cases z)
    exact I2.hok r _ this
  obtain ⟨its, rits, plits, hzl⟩ := I2.list (SqL.of (eN ca _ hca (fun ps z => by cases z)))
  obtain ⟨m, hns, hloc⟩ := I2.loc
  obtain ⟨uc, ruc, luc⟩ := hloc jc x (.ref ca) hN hσ (.inr (.inl hcl))
  obtain rfl : uc = Value.ref ca := ruc
  obtain ⟨cc, hcc, hcell⟩ : ∃ cc, X.env.cells.lookup x = some cc ∧ s2.heap.IsCell cc (some (.ref ca)) := by
    rcases luc with ⟨hk, _⟩ | ⟨_, c2, h2, h3⟩
    · have hk' : X.env.scope.names.lookup x = some .local := hk
      rw [hcl] at hk'
      cases hk'
    · exact ⟨c2, h2, h3⟩
  have hclo : (cloFrom X.env.cells scope.names []).lookup x = some cc := NdefX.clo_has hfree (PySem.mem_of_lookup (S.frk x List.mem_cons_self)) hcc
  have Fr0 : Fr X.base X.env.locals s2.heap m := ⟨hns, I2.bk, Nat.le_trans I2.ok.bsz I2.ok.above⟩
  have hin : X.A.handled = none := hr.hd
  have hb2 := I2.bk
  have ecode : s2.heap.CodeRec (.ref c') (X.env.qual ++ "<lambda>") := NdefX.codeO_at I2.hok hco
  refine sorted_rg (n := ks.length) (kz := ks) (news := allNews X.base s2.heap X.env.locals) Fr0 allNews_ok hin hr2 hk1 rfl (fun vs cnt i w k hw hk h tk own F' N' => ?_) (fun D h' tk out c2 vs cnt F' N' hlt ko => ?_)
  · have kp := allNews_keep hb2 F'.keep N'
    obtain ⟨tw, rfl⟩ := cnt.2 i w hw
    have hi : i < ks.length := (List.getElem?_eq_some_iff.mp hk).1
    have hc2 : cs[i]? = some (cs[i]'(by omega)) := List.getElem?_eq_getElem (by omega)
    obtain ⟨ta, u2, ev, hta⟩ := hcs i _ k hc2 hk
    rw [ev] at hc2
    have hta2 := eN ta _ hta (fun ps z => by cases z)
    obtain ⟨its2, r2, pl2, _⟩ := I2.tuple (SqT.of hta2)
    obtain ⟨w0, hw0, rw0⟩ := r2.get (i := 0) (x := V.int k) rfl
    obtain ⟨t0, rfl⟩ := rw0
    obtain ⟨wi, hwi, rwi⟩ := rits.get hc2
    obtain rfl : wi = Value.ref ta := rwi
    have neL : ∀ b o, H2 b = some o → b ≠ X.env.locals := fun b o e z => by
      rw [z, I2.free] at e; cases e
    have hfL : f ≠ X.env.locals := fun z => by
      obtain ⟨oL, _, _, hoL, hdL, _⟩ := hns
      rw [z, hoL] at hf
      cases hf
      cases hdL
    obtain ⟨ocell, hocell, hdcell⟩ := hcell
    refine wpAny_call (lam_price (x := x) (y := y) (k := k) (t0 := t0) (ca := ca) (ta := ta) (cc := cc) (items := its) (its := its2) hr.in1.in1.depth (kp _ _ hfL hf) ?_ (I2.ok.mod.nolimit.keeps F'.keep) S.co S.gen S.kind S.nocell (S.par y List.mem_cons_self) (S.frk x List.mem_cons_self) (bnd _ _ _ _ _ _) hclo
      ⟨ocell, kp _ _ (I2.cne x cc hcc) hocell, hdcell⟩ (plits.isList.at fun o e => kp _ _ (neL ca _ (eN ca _ hca (fun ps z => by cases z))) e) hwi (by omega) ?_ hw0 dx dy dc (fun h3 tk3 t3 kp3 => KskEnd.intro (F'.kept kp3) (N'.grown kp3) fun p hp => hp))
    · obtain ⟨c3, oc, vs3, t3, e3, hoc, hd3, hv3⟩ := ecode
      cases e3
      exact ⟨_, oc, vs3, t3, rfl, kp _ _ (neL _ _ hco) hoc, hd3, hv3⟩
    · obtain ⟨o2, ho2, r3⟩ := pl2
      exact ⟨o2, kp _ _ (neL ta _ hta2) ho2, r3⟩
  · have hD := N' (D, seqObj "list" out c2) List.mem_cons_self
    have kp := allNews_keep (own := []) hb2 F'.keep (by rw [List.append_nil]; exact fun p hp => N' p (List.mem_cons_of_mem _ hp))
    have nD : ∀ o, s2.heap.get? D ≠ some o := fun o e => absurd (hlt (D, o) (allNews_mem.mpr ⟨e, hD.2.1, hD.2.2⟩)) (Nat.lt_irrefl _)
    have nH : H2 D = none := by
      cases e : H2 D with
      | none => rfl
      | some o =>
        obtain ⟨u, eu⟩ := obj_there (I2.hok D o e)
        exact absurd eu (nD u)
    obtain ⟨ps, hp1, hp2, hp3⟩ := places_of cnt ko
    exact ⟨.ref D, _, inv_newL I2 hns F' kp nD hD.1 (by rw [List.length_map, hp3, sizeLine_eq]; omega) hp2, rfl, q H2 D ps eN T2 nH hp1 hp3⟩
end
end K3
namespace K3
open PySem PySem.Spec PyProof.Rows L2
theorem catK {X : Cx} (K : PySem.W.Frag) (h : X.K = K := by rfl) : OpR X (binaryOp .Add) (rCat K) := h ▸ op_cat'
theorem piL {X : Cx} {tg e : Expr} {te : TE} (K : PySem.W.Frag) (he : PE X e te) (h : X.K = K := by rfl) : PI X tg e (iList K te) := h ▸ pi_list he
/-- a comprehension's inner walk -/
theorem lcw_it {J : It} {n : Nat} {G : Hp → Prop} {Y : Nat → Hp → V → Hp → Prop} (w : Walk J n G Y) {g : TG} {tt : TT} {te : TE} {vs : List Nat} {σ : L2.St} {H1 : Hp} {D : Addr} {Qd : Hp → Prop} (Pv : Nat → Hp → Prop) (h0 : Pv 0 H1) (hG : ∀ i H, i ≤ n → Pv i H → G H)
    (hs : ∀ i x H H', i < n → Pv i H → Y i H x H' → g x (wipe σ vs) H' fun σ2 H2 => wipe σ2 vs = wipe σ vs ∧ tt σ2 H2 fun b H3 =>
      if b = true then te σ2 H3 fun y H4 => ∃ acc, H4 D = some (.lst acc) ∧ acc.length < sizeLine ∧ Pv (i + 1) (upd H4 D (.lst (acc ++ [y]))) else Pv (i + 1) H3) (hd : ∀ H, Pv n H → Qd H) :
    ∃ W : Nat → Nat → Hp → Prop, (∃ m, W 0 m H1) ∧ ∀ i m H, W i m H →
      (J.stop i H ∧ Qd H) ∨ (J.go i H ∧ ∃ Nx : Hp → Prop, (∀ H', Nx H' → ∃ m', m' < m ∧ W (i + 1) m' H') ∧ ∀ x H', J.yld i H x H' → g x (wipe σ vs) H' fun σ2 H2 => wipe σ2 vs = wipe σ vs ∧ tt σ2 H2 fun b H3 =>
        if b = true then te σ2 H3 fun y H4 => ∃ acc, H4 D = some (.lst acc) ∧ acc.length < sizeLine ∧ Nx (upd H4 D (.lst (acc ++ [y]))) else Nx H3) := by
  refine ⟨fun i m H => m = n - i ∧ i ≤ n ∧ Pv i H, ⟨n, rfl, Nat.zero_le _, h0⟩, ?_⟩
  rintro i m H ⟨em, hi, p⟩
  have q := hG i H hi p
  rcases Nat.lt_or_eq_of_le hi with hlt | e
  · exact .inr ⟨w.goes i H hlt q, Pv (i + 1), fun H' p' => ⟨n - (i + 1), by omega, rfl, hlt, p'⟩, fun x H' y => hs i x H H' hlt p (w.yields i H x H' hlt q y)⟩
  · subst e
    exact .inl ⟨w.stops H q, hd H p⟩
/-- .. and its outer one -/
theorem lc2_it {J : It} {n : Nat} {G : Hp → Prop} {Y : Nat → Hp → V → Hp → Prop} (w : Walk J n G Y) {g g1 : TG} {tt tt1 : TT} {wi1 : TI} {te : TE} {vs vs1 : List Nat} {σ : L2.St} {H1 : Hp} {D : Addr} {Qd : Hp → Prop} (Pv : Nat → Hp → Prop) (h0 : Pv 0 (upd H1 D (.lst []))) (hG : ∀ i H, i ≤ n → Pv i H → G H)
    (hs : ∀ i x H H', i < n → Pv i H → Y i H x H' → g x (wipe σ vs) H' fun σ2 H2 => wipe σ2 vs = wipe σ vs ∧ tt σ2 H2 fun b H3 =>
      if b = true then wi1 σ2 H3 fun J1 H4 => ∃ W1 : Nat → Nat → Hp → Prop, (∃ m, W1 0 m H4) ∧ ∀ j k H, W1 j k H →
        (J1.stop j H ∧ Pv (i + 1) H) ∨ (J1.go j H ∧ ∃ Nx1 : Hp → Prop, (∀ H', Nx1 H' → ∃ k', k' < k ∧ W1 (j + 1) k' H') ∧ ∀ x H', J1.yld j H x H' → g1 x (wipe σ2 vs1) H' fun σ3 H5 => wipe σ3 vs1 = wipe σ2 vs1 ∧ tt1 σ3 H5 fun b H6 =>
          if b = true then te σ3 H6 fun y H7 => ∃ acc, H7 D = some (.lst acc) ∧ acc.length < sizeLine ∧ Nx1 (upd H7 D (.lst (acc ++ [y]))) else Nx1 H6)
      else Pv (i + 1) H3) (hd : ∀ H, Pv n H → Qd H) :
    ∃ W : Nat → Nat → Hp → Prop, (∃ m, W 0 m (upd H1 D (.lst []))) ∧ ∀ i m H, W i m H →
      (J.stop i H ∧ Qd H) ∨ (J.go i H ∧ ∃ Nx : Hp → Prop, (∀ H', Nx H' → ∃ m', m' < m ∧ W (i + 1) m' H') ∧ ∀ x H', J.yld i H x H' → g x (wipe σ vs) H' fun σ2 H2 => wipe σ2 vs = wipe σ vs ∧ tt σ2 H2 fun b H3 =>
        if b = true then wi1 σ2 H3 fun J1 H4 => ∃ W1 : Nat → Nat → Hp → Prop, (∃ m, W1 0 m H4) ∧ ∀ j k H, W1 j k H →
          (J1.stop j H ∧ Nx H) ∨ (J1.go j H ∧ ∃ Nx1 : Hp → Prop, (∀ H', Nx1 H' → ∃ k', k' < k ∧ W1 (j + 1) k' H') ∧ ∀ x H', J1.yld j H x H' → g1 x (wipe σ2 vs1) H' fun σ3 H5 => wipe σ3 vs1 = wipe σ2 vs1 ∧ tt1 σ3 H5 fun b H6 =>
            if b = true then te σ3 H6 fun y H7 => ∃ acc, H7 D = some (.lst acc) ∧ acc.length < sizeLine ∧ Nx1 (upd H7 D (.lst (acc ++ [y]))) else Nx1 H6)
        else Nx H3) := by
  refine ⟨fun i m H => m = n - i ∧ i ≤ n ∧ Pv i H, ⟨n, rfl, Nat.zero_le _, h0⟩, ?_⟩
  rintro i m H ⟨em, hi, p⟩
  have q := hG i H hi p
  rcases Nat.lt_or_eq_of_le hi with hlt | e
  · exact .inr ⟨w.goes i H hlt q, Pv (i + 1), fun H' p' => ⟨n - (i + 1), by omega, rfl, hlt, p'⟩, fun x H' y => hs i x H H' hlt p (w.yields i H x H' hlt q y)⟩
  · subst e
    exact .inl ⟨w.stops H q, hd H p⟩
section
variable {P : Program} {w : World} {K : PySem.W.Frag} {mg : Str → Option Value} {base : Heap} {C : Addr}
/-- one register, the one kind «add» -/
def insF (ki : KI) : List Ins := [⟨"add", -1, List.replicate ki.srcs.toNat 0⟩, ⟨"add", 0, List.replicate ki.srcs.toNat 0⟩]
structure One (ti : PI0) (ki : KI) : Prop where
  r : ti.regs = 1
  k : ti.ks = [(("add" : Str), ki)]
  s0 : 0 ≤ ki.srcs
  s2 : ki.srcs ≤ 2
abbrev nIns : List Str := ["self", "told", "kind", "lists", "_", "sources", "source", "goal"]
theorem scIns : FnScope nIns ["self"] (defScope sInss) := ⟨rfl, rfl, rfl, by decide +kernel, rfl, by decide +kernel, by decide +kernel⟩
theorem ok_inss {ti : PI0} {ki : KI} {f : Addr} {fd : FuncData} (F : Fun K "instructions" "Pipe.instructions" sInss f fd) (T : Txt K mg) (TC : TxtC K mg C) (o : One ti ki) : FnOk P w K mg base CX0 1 f fd ["self"] (spInsD C ti (insF ki)) := by
  refine F.ok scIns (fun vs H Q E h => ?_) (fun cdv A outer s H vs Q E hr h => ?_)
  · obtain ⟨p, kdA, c, rfl, _⟩ := h
    rfl
  · obtain ⟨p, kdA, c, rfl, hpipe, ⟨kvs, hkd, hkv⟩, k⟩ := h
    have nd := scIns.nd
    have hu := hu_of hr
    refine ⟨_, pss_cons (ps_set (i := 1) nd rfl (.inl rfl) (plst pa_nil))
      (pss_cons (ps_lock (ps_for PassesOwn.never rfl (pi_keys (pfd K (pv 0))) (pg_name (i := 2) nd rfl (.inr rfl))
        (pss_cons (ps_set (i := 3) nd rfl (.inr rfl) (plst (pa_cons (ptup pa_nil) pa_nil)))
        (pss_cons (ps_for PassesOwn.never rfl (pi_range1 rfl T.range (pa_cons (pe_ix (ixT K) (pe_dget hu (pfd K (pv 0)) (pv 2) (fun _ _ => rfl)) pe_int (fun _ _ => rfl)) pa_nil)) (pg_name (i := 4) nd rfl (.inl rfl))
          (pss_one (ps_set (i := 3) nd rfl (.inr rfl) (pe_lc2 (own := [("sources", 5), ("source", 6)]) (vs1 := [6]) (g := gName 5) (g1 := gName 6) (by rfl) nd (pi_list (pv 3)) (blkOk_by (N := nIns) (sc := defScope sInss) (by decide +kernel)) (by decide)
            (fun _ _ _ _ _ => pg_name (i := 5) nd rfl (.inl rfl)) (fun _ _ _ _ _ => pts_nil)
            (fun _ _ _ _ _ => pi_range1 rfl T.range (pa_cons (pfd K (pv 0)) pa_nil)) (fun _ _ _ _ _ => pg_name (i := 6) nd rfl (.inl rfl)) (fun _ _ _ _ _ => pts_nil)
            (fun _ _ _ _ _ => pe_op (catK K) (pv 5) (ptup (pa_cons (pv 6) pa_nil)))))))
        (pss_one (ps_expr (pe_bm PySem.F.plainAttrs_list PySem.F.slot_list_extend PySem.F.type_list_extend mt_extend (pv 1) (pa_cons
          (pe_lc2 (own := [("goal", 7), ("sources", 5)]) (vs1 := [5]) (g := gName 7) (g1 := gName 5) (by rfl) nd (pi_range2 rfl T.range (pa_cons (pe_un un_neg pe_int) (pa_cons (pfd K (pv 0)) pa_nil))) (blkOk_by (N := nIns) (sc := defScope sInss) (by decide +kernel)) (by decide)
            (fun _ _ _ _ _ => pg_name (i := 7) nd rfl (.inl rfl)) (fun _ _ _ _ _ => pts_nil)
            (fun _ _ _ _ _ => piL K (pv 3)) (fun _ _ _ _ _ => pg_name (i := 5) nd rfl (.inl rfl)) (fun _ _ _ _ _ => pts_nil)
            (fun _ _ _ _ _ => ptupN (pa_cons (pv 2) (pa_cons (pv 7) (pa_cons (pv 5) pa_nil))))) pa_nil))))))))
      (pss_one (ps_ret (pv 1)))), ?_⟩
    obtain ⟨dx, hp⟩ := id hpipe
    -- the one kind
    rw [o.k] at hkv
    obtain ⟨e0, rest, rfl⟩ : ∃ e0 rest, kvs = e0 :: rest := by
      cases kvs with
      | nil => exact hkv.elim
      | cons a b => exact ⟨a, b, rfl⟩
    obtain ⟨⟨k1, ta, k2, hta⟩, hrest⟩ := hkv
    obtain rfl : rest = [] := by
      cases rest with
      | nil => rfl
      | cons a b => exact hrest.elim
    obtain ⟨kk, kv⟩ := e0
    have k1' : kk = (Sum.inr ("add" : Str) : Key) := k1
    have k2' : kv = .ref ta := k2
    subst k1' k2'
    refine rd_l0 fun B H1 nB s1 hB => ?_
    have hkd1 := s1 _ _ hkd
    have hp1 := s1 _ _ hp
    have hta1 := s1 _ _ hta
    have npk : p ≠ kdA := ne_of hp hkd (by intro z; cases z)
    have ntk : ta ≠ kdA := ne_of hta hkd (by intro z; cases z)
    have nBk : B ≠ kdA := fun z => by rw [z, hkd] at nB; cases nB
    refine ⟨kdA, _, hkd1, True.intro, fun od => ?_⟩
    let Hf := upd H1 kdA (.frz od (.dK [(Sum.inr ("add" : Str), V.ref ta)]))
    have hf : Hf kdA = some (.frz od (.dK [(Sum.inr ("add" : Str), V.ref ta)])) := upd_same
    have hpf : Hf p = some (.ins C dx (pfl ti.regs kdA ti.ho ti.od c)) := by show upd H1 kdA _ p = _; rw [upd_ne npk]; exact hp1
    have htf : Hf ta = some (.tup [.int ki.srcs, .int ki.len, oV ki.way]) := by show upd H1 kdA _ ta = _; rw [upd_ne ntk]; exact hta1
    have hBf : Hf B = some (.lst []) := by show upd H1 kdA _ B = _; rw [upd_ne nBk]; exact hB
    have nBp : p ≠ B := ne_of hpf hBf (by intro z; cases z)
    have nBt : ta ≠ B := ne_of htf hBf (by intro z; cases z)
    let σ0 : Option V → Option V → Option V → L2.St := fun v2 v3 v4 => [some (.ref p), some (.ref B), v2, v3, v4, none, none, none]
    refine ⟨_, rfl, p, C, dx, _, _, rfl, hpf, TC.cl, TC.nk, pfl_k, kdA, od, rfl, .inl ⟨_, hf, for_it (walk_keys (d := kdA) (o := od) (kvs := [(Sum.inr ("add" : Str), V.ref ta)])) (fun j σ' H' => ∃ v2 v3 v4 zs, σ' = σ0 v2 v3 v4 ∧ But B Hf H' ∧ H' B = some (.lst zs) ∧ Al (InAt H') zs ((insF ki).take (2 * j)))
      ⟨none, none, none, [], rfl, fun b o' _ e => e, hBf, Al.nil⟩ (fun j σ' H' _ hh => by obtain ⟨_, _, _, _, _, b, _⟩ := hh; exact b _ _ nBk.symm hf) ?_ ?_⟩⟩
    · rintro j y σ' H' H'' hj ⟨v2, v3, v4, zs, rfl, bt, hzB, hal⟩ ⟨eH, ky, vy, hky, rfl⟩
      obtain rfl : H' = H'' := eH.symm
      have hj0 : j = 0 := by simpa using hj
      subst hj0
      cases hky
      have hp' := bt _ _ nBp hpf
      have ht' := bt _ _ nBt htf
      have hk' := bt _ _ nBk.symm hf
      -- lists = [()]
      refine rd_t0 fun t0 H2 s2 h2 => ?_
      refine rd_l1 fun L0 H3 n3 s3 h3 => ?_
      have s23 := s2.trans s3
      refine ⟨_, rfl, p, C, dx, _, _, rfl, s23 _ _ hp', TC.cl, TC.nk, pfl_k, _, rfl, kdA, .ref ta, rfl, .inl ⟨_, Sum.inr ("add" : Str), .inr ⟨od, s23 _ _ hk'⟩, rfl, rfl⟩, ta, _, 0, _, rfl, rfl, SqT.of (s23 _ _ ht'), rfl, ki.srcs, rfl, by have := o.s0; omega, by have := o.s2; omega, ?_⟩
      refine for_range (n := ki.srcs.toNat) (fun m σ' H4 => ∃ v4 L bs, σ' = σ0 (some (.str "add")) (some (.ref L)) v4 ∧ Same H' H4 ∧ H4 L = some (.lst [.ref bs]) ∧ H4 bs = some (.tup ((List.replicate m (0 : Int)).map V.int))) ⟨_, L0, t0, rfl, s23, h3, s3 _ _ h2⟩ ?_ ?_
      · rintro m σ' H4 hm ⟨v4', L, bs, rfl, s4, hL, hbs⟩
        have hm2 : m < 2 := by have := o.s2; omega
        refine ⟨_, rfl, L, rfl, ⟨_, SqL.of hL⟩, fun D nD => lc2_it (walk_list (K := K) (a := L) (xs := [.ref bs])) (fun j2 G => Same H4 G ∧ ∃ acc, G D = some (.lst acc) ∧ acc.length = j2 ∧ ∀ x ∈ acc, ∃ b', x = .ref b' ∧ G b' = some (.tup ((List.replicate (m + 1) (0 : Int)).map V.int)))
          ⟨same_upd nD, [], upd_same, rfl, fun x hx => by cases hx⟩ (fun j2 G _ hh => SqL.of (hh.1 _ _ hL)) ?_ ?_⟩
        · rintro j2 x G G' hj2 ⟨sG, acc, hD, hl, hall⟩ ⟨rfl, hx⟩
          have hj0 : j2 = 0 := by simpa using hj2
          subst hj0
          cases hx
          obtain rfl : acc = [] := List.eq_nil_of_length_eq_zero hl
          refine ⟨rfl, ?_⟩
          refine ⟨_, rfl, p, C, dx, _, _, rfl, (s4.trans sG) _ _ hp', TC.cl, TC.nr, pfl_r, ti.regs, rfl, by rw [o.r]; decide, by rw [o.r]; decide, ?_⟩
          rw [o.r]
          refine lcw_it (walk_range (lo := 0) (n := (1 : Int).toNat)) (fun k3 G2 => Same H4 G2 ∧ ∃ acc, G2 D = some (.lst acc) ∧ acc.length = k3 ∧ ∀ x ∈ acc, ∃ b', x = .ref b' ∧ G2 b' = some (.tup ((List.replicate (m + 1) (0 : Int)).map V.int)))
            ⟨sG, [], hD, rfl, fun x hx => by cases hx⟩ (fun _ _ _ _ => True.intro) ?_ ?_
          · rintro k3 x G2 G3 hk3 ⟨sG2, acc, hD2, hl2, hall2⟩ ⟨rfl, rfl⟩
            have hk0 : k3 = 0 := by
              have : k3 < 1 := hk3
              omega
            subst hk0
            obtain rfl : acc = [] := List.eq_nil_of_length_eq_zero hl2
            refine ⟨rfl, ?_⟩
            refine ⟨_, rfl, _, rfl, ?_⟩
            refine rd_t1 fun q1 G3 s5 h5 => ?_
            have hbs3 := s5 _ _ (sG2 _ _ hbs)
            refine rd_cat hbs3 h5 (by rw [List.length_map, List.length_replicate]; show m + 1 ≤ 100000; omega) fun q2 G4 s6 h6 => ?_
            have s56 := s5.trans s6
            refine ⟨[], s56 _ _ hD2, szl (by decide), ?_, [.ref q2], upd_same, rfl, ?_⟩
            · exact (sG2.trans s56).mut nD
            · intro x hx
              rw [List.mem_singleton] at hx
              subst hx
              refine ⟨q2, rfl, ?_⟩
              have : q2 ≠ D := fun z => by rw [z, s56 _ _ hD2] at h6; cases h6
              rw [upd_ne this, h6, List.replicate_succ']
              simp
          · rintro G2 ⟨sG2, acc, hD2, hl2, hall2⟩
            exact ⟨sG2, acc, hD2, hl2, hall2⟩
        · rintro G ⟨sG, acc, hD, hl, hall⟩
          have hl1 : acc.length = 1 := hl
          obtain ⟨x, rfl⟩ := List.length_eq_one_iff.mp hl1
          obtain ⟨b', rfl, hb'⟩ := hall x List.mem_cons_self
          exact ⟨_, D, b', rfl, s4.trans sG, hD, hb'⟩
      · rintro σ' H4 ⟨v4', L, bs, rfl, s4, hL, hbs⟩
        have hzB4 := s4 _ _ hzB
        refine ⟨_, rfl, .inl ⟨rfl, _, SqL.of hzB4⟩, ?_⟩
        refine ⟨_, rfl, _, rfl, p, C, dx, _, _, rfl, s4 _ _ hp', TC.cl, TC.nr, pfl_r, -1, ti.regs, rfl, ⟨by decide, by decide, by rw [o.r]; decide, by rw [o.r]; decide⟩, fun D nD => ?_⟩
        rw [o.r]
        refine lc2_it (walk_range (lo := -1) (n := ((1 : Int) - (-1)).toNat)) (fun j2 G => Same H4 G ∧ ∃ acc, G D = some (.lst acc) ∧ Al (InAt G) acc ((insF ki).take j2))
          ⟨same_upd nD, [], upd_same, Al.nil⟩ (fun _ _ _ _ => True.intro) ?_ ?_
        · rintro j2 x G G' hj2 ⟨sG, acc, hD, hAl⟩ ⟨rfl, rfl⟩
          have hj2' : j2 < 2 := hj2
          refine ⟨rfl, ?_⟩
          refine ⟨_, rfl, L, rfl, ⟨_, SqL.of (sG _ _ hL)⟩, lcw_it (walk_list (K := K) (a := L) (xs := [.ref bs])) (fun k3 G2 => Same H4 G2 ∧ ∃ acc, G2 D = some (.lst acc) ∧ Al (InAt G2) acc ((insF ki).take (j2 + k3)))
            ⟨sG, acc, hD, hAl⟩ (fun _ _ _ hh => SqL.of (hh.1 _ _ hL)) ?_ ?_⟩
          · rintro k3 x G2 G3 hk3 ⟨sG2, acc, hD2, hAl2⟩ ⟨rfl, hx⟩
            have hk0 : k3 = 0 := by simpa using hk3
            subst hk0
            cases hx
            refine ⟨rfl, ?_⟩
            refine ⟨_, rfl, _, rfl, _, rfl, ?_⟩
            refine rd_t3 fun q1 G3 s5 h5 => ?_
            have hD3 := s5 _ _ hD2
            have hlen : acc.length ≤ 100000 := by
              rw [hAl2.1, List.length_take]
              have : (insF ki).length = 2 := rfl
              omega
            refine ⟨acc, hD3, szl hlen, (sG2.trans s5).mut nD, acc ++ [.ref q1], upd_same, ?_⟩
            have t6 := tups_lst (o := HO.lst (acc ++ [V.ref q1])) hD3
            have e1 : (insF ki).take (j2 + (0 + 1)) = (insF ki).take j2 ++ [⟨"add", -1 + (j2 : Int), List.replicate ki.srcs.toNat 0⟩] := by
              match j2, hj2' with
              | 0, _ => rfl
              | 1, _ => rfl
            rw [e1]
            refine Al.snoc (hAl2.mono fun _ _ z => InAt.mono (Tups.trans s5.tups t6) z) ⟨q1, bs, rfl, t6 _ _ h5, t6 _ _ (s5 _ _ (sG2 _ _ hbs))⟩
          · rintro G2 ⟨sG2, acc, hD2, hAl2⟩
            exact ⟨sG2, acc, hD2, hAl2⟩
        · rintro G ⟨sG, acc, hD, hAl⟩
          have hzG := sG _ _ hzB4
          refine ⟨B, D, zs, acc, rfl, rfl, hzG, hD, ?_, ?_⟩
          · rw [hal.1, hAl.1]
            exact sz (by show _ + (List.take 2 (insF ki)).length ≤ 100000; rw [List.length_take, List.length_take]; have : (insF ki).length = 2 := rfl; omega)
          · have hz0 : zs = [] := List.eq_nil_of_length_eq_zero (by rw [hal.1]; rfl)
            subst hz0
            have t7 := tups_lst (o := HO.lst ([] ++ acc)) hzG
            refine ⟨_, _, _, [] ++ acc, rfl, fun b ob n e => ?_, upd_same, ?_⟩
            · rw [upd_ne n]
              exact (s4.trans sG) _ _ (bt _ _ n e)
            · exact hAl.mono fun _ _ z => InAt.mono t7 z
    · rintro σ' H' ⟨v2, v3, v4, zs, rfl, bt, hzB, hal⟩
      have hk' := bt _ _ nBk.symm hf
      refine ⟨hk', _, rfl, ?_⟩
      refine k B _ nB (fun b ob e => ?_) ⟨zs, by rw [upd_ne nBk]; exact hzB, hal.mono fun _ _ z => InAt.mono (fun b ys e => ?_) z⟩
      · by_cases hb : b = kdA
        · subst hb
          rw [upd_same, ← e, hkd]
        · rw [upd_ne hb]
          refine bt _ _ (ne_of_none e nB) ?_
          show upd H1 kdA _ b = _
          rw [upd_ne hb]
          exact s1 _ _ e
      · have : b ≠ kdA := fun z => by rw [z, hk'] at e; cases e
        rw [upd_ne this]
        exact e
end
end K3
namespace K3
open PySem PySem.Spec PyProof.Rows L2
/-! ### enumerate(a tuple) -/
set_option maxHeartbeats 1000000 in
theorem enum_new1 {v : Value} {o : Obj} {H : Heap → Prop} (B : Begins v o H) : Meets (Builtin.«enumerate.__new__» ⟨[.type "enumerate", v], []⟩) (fun _ R s => H s.heap ∧
    R (.ok (.ret (.ref (s.heap.push o).objs.size))) { s with heap := (s.heap.push o).push { cls := .type "enumerate", data := .fields #[.none, .bool false, .ref s.heap.objs.size, rawInt 0, .none, .none] } }) :=
  .of_wp fun prog w A R s ⟨h1, h2⟩ => by
    have sub0 := sub_enumerate
    have it0 : ∀ {A' : Around} {E : Value → Shared → Prop} {Q : Value → Shared → Prop}, Q (.ref s.heap.objs.size) { s with heap := s.heap.push o } → wpAny (model prog w) A' (pyIter v) Q E s := fun q => B.iter prog w _ _ s _ h1 q
    obtain ⟨hp, gg, dd, tt, oo⟩ := s
    wp_walk using it0
    refine wpAny_stack_any fun st => wpAny_pure ?_
    split
    · rename_i c _ _ _ _ _
      cases (c == Value.type "enumerate") <;> (wp_walk using it0; exact ⟨_, rfl, h2⟩)
    · wp_walk using it0; exact ⟨_, rfl, h2⟩
section
variable {prog : Program} {w : World} {A : Around} {E : Value → Shared → Prop} {s : Shared}
theorem call_enum1 {v : Value} {o : Obj} {H : Heap → Prop} {Q : Value → Shared → Prop} (B : Begins v o H) (h1 : H s.heap)
    (fin : ∀ h', IsEnum h' (s.heap.objs.size + 1) s.heap.objs.size 0 .none → h'.get? s.heap.objs.size = some o → (∀ b u, s.heap.get? b = some u → h'.get? b = some u) → Q (.ref (s.heap.objs.size + 1)) { s with heap := h' }) :
    wpAny (model prog w) A (call (.type "enumerate") [v]) Q E s := by
  refine callType_new F.called_enumerate (by decide) (F.typeCall_enumerate_1 v) (F.newCall_enumerate_1 v) (fun obj => F.args_object_init_2 obj v) F.entry_enumerate_new (enum_new1 B) ⟨h1, ?_⟩
  have z : (s.heap.push o).objs.size = s.heap.objs.size + 1 := Heap.size_push ..
  show _ ∧ _
  rw [z]
  have e1 : IsEnum ((s.heap.push o).push { cls := .type "enumerate", data := .fields #[.none, .bool false, .ref s.heap.objs.size, rawInt 0, .none, .none] }) (s.heap.objs.size + 1) s.heap.objs.size 0 .none := by
    have q := Heap.get?_push_size (s.heap.push o) (o := { cls := .type "enumerate", data := .fields #[.none, .bool false, .ref s.heap.objs.size, rawInt 0, .none, .none] }) rfl
    rw [z] at q
    exact q
  exact ⟨⟨_, e1, rfl⟩, fin _ e1 (Heap.get?_push_of_some _ (Heap.get?_push_size _ B.free)) fun b u x => Heap.get?_push_of_some _ (Heap.get?_push_of_some _ x)⟩
end
def Itet (K : PySem.W.Frag) (a : Addr) : It :=
  ⟨fun i H => ∃ (xs : List V) (x : V), SqT K H a xs ∧ xs[i]? = some x, fun i H v H' => ∃ T x, v = .ref T ∧ H T = none ∧ H' = upd H T (.tup [.int (i : Nat), x]) ∧ ∀ xs, SqT K H a xs → xs[i]? = some x, fun i H => ∃ xs : List V, SqT K H a xs ∧ xs.length = i⟩
theorem turn_enumT {P : Program} {w : World} {K : PySem.W.Frag} {elts : List Expr} {kk : Nat} {tpos : Pos} (a e it : Addr) :
    Turn P w K (.Tuple elts kk tpos) (Itet K a) [e, it] e (fun i h => (∃ old, IsEnum h e it ((i : Nat) : Int) old) ∧ h.IsTupleIter it a i ∧ e ≠ it ∧ a ≠ it ∧ e ≠ a) where
  mem := List.mem_cons_self
  obj := fun i h ⟨⟨old, he⟩, ⟨o, ho, hc, hd⟩, _⟩ b hb => by
    rcases List.mem_cons.mp hb with z | z
    · subst z
      exact ⟨_, he, fun v q => nomatch q⟩
    · rw [List.mem_singleton.mp z]
      exact ⟨o, ho, fun v q => by rw [hd] at q; cases q⟩
  keep := fun i h h' ⟨⟨old, he⟩, ⟨o, ho, r⟩, n⟩ k => ⟨⟨old, k e List.mem_cons_self _ he⟩, ⟨o, k it (List.mem_cons_of_mem _ List.mem_cons_self) o ho, r⟩, n⟩
  item := by
    rintro X rfl rfl rfl hcalm i pins s σ H E I hf ⟨⟨old, he⟩, hit, n1, n2, n3⟩ ⟨xs, x, hq, hx⟩
    obtain ⟨its, rv, pt, hz⟩ := I.tuple hq
    obtain ⟨u, hu, ru⟩ := rv.get hx
    have lte : e < s.heap.objs.size := Heap.lt_size he
    have lti : it < s.heap.objs.size := by obtain ⟨_, q, _⟩ := hit; exact Heap.lt_size q
    have hh : X.A.in1.handled = none := I.ok.hd hcalm
    have hlt : i < its.toArray.size := by rw [List.size_toArray]; exact (List.getElem?_eq_some_iff.mp hu).1
    refine wpAny_pyNext_enum_itemD (Draws.tuple (A := X.A.in1) hh it a n2 its.toArray) he ⟨hit, pt⟩ hlt n1 (by
      intro z
      rcases List.mem_cons.mp z with z | z
      · exact n1 z
      · exact n3 (List.mem_singleton.mp z)) fun y h' tk hy ho hst' hT hsz hk => ?_
    have ey : y = u := by
      have q : its.toArray[i]? = some y := hy
      rw [show its.toArray[i]? = some u by simpa using hu] at q
      exact (Option.some.inj q).symm
    subst ey
    refine ⟨_, rfl, wpAny_letOwnedTupleGo_enum (s := { s with heap := h', toks := tk + 1 }) ho fun h2 he2 sb => ?_⟩
    have hT2 := (sb.2 s.heap.objs.size (Nat.ne_of_gt lte)).trans hT
    have new : ObjOk X.prog X.w (upd H s.heap.objs.size (.tup [.int (i : Nat), x])) h2 s.heap.objs.size (.tup [.int (i : Nat), x]) :=
      ⟨sz (by show 2 ≤ 100000; decide), [.int i tk, y], .cons ⟨_, rfl⟩ (.cons ru .nil), ⟨_, hT2, rfl, _, rfl⟩⟩
    have ne2 : ∀ b, b ∉ [e, it] → b ≠ e ∧ b ≠ it := fun b hb => ⟨fun z => hb (by rw [z]; exact List.mem_cons_self), fun z => hb (by rw [z]; exact List.mem_cons_of_mem _ List.mem_cons_self)⟩
    have J := I.turnedNew (t' := tk + 1) (h' := h2) (ch := [e, it]) (fun b ob hb q => (sb.2 b (ne2 b hb).1).trans (hk b ob (ne2 b hb).1 (ne2 b hb).2 q)) hf (Nat.le_refl _) new
    refine ⟨.ref s.heap.objs.size, _, J, rfl, ⟨_, x, rfl, I.hok.fresh (Nat.le_refl _), rfl, fun ys hy2 => by rw [I.tuple_inj hy2 hq]; exact hx⟩, ⟨⟨y, ?_⟩, ?_, n1, n2, n3⟩, fun b hb => ?_⟩
    · rw [show ((i + 1 : Nat) : Int) = (i : Int) + 1 by omega]
      exact he2
    · obtain ⟨o3, ho3, r3⟩ := hst'.1
      exact ⟨o3, (sb.2 it n1.symm).trans ho3, r3⟩
    · have lt2 : b < s.heap.objs.size := by
        rcases List.mem_cons.mp hb with z | z
        · rw [z]; exact lte
        · rw [List.mem_singleton.mp z]; exact lti
      rw [upd_ne (Nat.ne_of_lt lt2)]
      exact (hf b hb).1
  done := by
    rintro X rfl rfl rfl hcalm i pins s σ H E I hf ⟨⟨old, he⟩, hit, n1, n2, n3⟩ ⟨xs, hq, hx⟩
    obtain ⟨its, rv, pt, hz⟩ := I.tuple hq
    have hh : X.A.in1.handled = none := I.ok.hd hcalm
    obtain ⟨f0, f1, f2, f3, f4, f5⟩ := hf it (List.mem_cons_of_mem _ List.mem_cons_self)
    have hl := rv.length
    have ei : its.toArray.size = i := by rw [List.size_toArray, ← hl]; exact hx
    exact wpAny_pyNext_enum_endD (Draws.tuple (A := X.A.in1) hh it a n2 its.toArray) he ⟨by rw [ei]; exact hit, pt⟩ fun h' eb => ⟨rfl, I.turned (t' := s.toks) (fun b o hb q => eb b o hb q) f0 f1 f3 f4 f5⟩
  self := fun A i s Q E ⟨⟨_, he⟩, _⟩ h => wpAny_pyIter_enum he h
def iEnumT (K : PySem.W.Frag) (ta : TA) : TI := fun σ H R => ta σ H fun vs H1 => ∃ a xs, vs = [.ref a] ∧ SqT K H1 a xs ∧ R (Itet K a) H1
theorem pi_enumT {X : Cx} {e : Expr} {ta : TA} {p pos tpos : Pos} {elts : List Expr} {kk : Nat} (hg : Gl X "enumerate") (hm : X.mg "enumerate" = none) (ha : PA X [e] ta) (hs : starEach [e] X.env = [(false, eval e X.env)] := by rfl) :
    PI X (.Tuple elts kk tpos) (.Call (.Name "enumerate" p) [e] [] pos) (iEnumT X.K ta) := by
  refine ⟨fun pins s σ H R I h => ?_⟩
  refine Call_ (ld_blt I hg hm boot_enumerate (PyProof.Rows.callWith_type1 (thn (ha.run pos pins s σ H _ I h) fun us s1 ⟨vs, H1, I1, r1, a, xs, ex, hq, q⟩ => ?_) hs rfl))
  subst ex
  obtain ⟨u, rfl, ru⟩ := vals1 r1
  obtain rfl : u = Value.ref a := ru
  obtain ⟨its, rv, pt, hz⟩ := I1.tuple hq
  refine call_enum1 (begins_tuple a its.toArray) pt fun h' he hit kp => wpAny_pyIter_enum he ?_
  have lta : a < s1.heap.objs.size := pt.lt
  have I2 : Inv X pins σ H1 { s1 with heap := h' } := I1.kept (t' := s1.toks) kp
  refine ⟨s1.heap.objs.size + 1, [s1.heap.objs.size + 1, s1.heap.objs.size], _, _, H1, rfl, I2, turn_enumT a (s1.heap.objs.size + 1) s1.heap.objs.size, ⟨⟨.none, he⟩, ⟨_, hit, rfl, rfl⟩, Nat.succ_ne_self _, Nat.ne_of_lt lta, Nat.ne_of_gt (Nat.lt_succ_of_lt lta)⟩, fun b hb => ?_, q⟩
  have le : s1.heap.objs.size ≤ b := by
    rcases List.mem_cons.mp hb with z | z
    · rw [z]; exact Nat.le_succ _
    · rw [List.mem_singleton.mp z]; exact Nat.le_refl _
  exact I1.fpOk le (I1.hok.fresh le)
theorem walk_enumT {K : PySem.W.Frag} {a : Addr} {xs : List V} : Walk (Itet K a) xs.length (fun H => SqT K H a xs) (YPair (fun i => some (.int (i : Nat))) (fun i => xs[i]?)) :=
  ⟨fun i _ hi q => ⟨xs, xs[i], q, List.getElem?_eq_getElem hi⟩, fun _ q => ⟨xs, q, rfl⟩, fun i H v H' _ q ⟨T, x, h1, h2, h3, h4⟩ => ⟨T, .int (i : Nat), x, h1, h2, h3, rfl, h4 xs q⟩⟩
/-! ### one of two ways -/
def tOrI (a b : TI) : TI := fun σ H R => a σ H R ∨ b σ H R
theorem pi_or {X : Cx} {tg e : Expr} {a b : TI} (h1 : PI X tg e a) (h2 : PI X tg e b) : PI X tg e (tOrI a b) := ⟨fun pins s σ H R I h => h.elim (h1.run pins s σ H R I) (h2.run pins s σ H R I)⟩
def tOrE (a b : TE) : TE := fun σ H Q => a σ H Q ∨ b σ H Q
theorem pe_or2 {X : Cx} {e : Expr} {a b : TE} (h1 : PE X e a) (h2 : PE X e b) : PE X e (tOrE a b) := ⟨fun pins s σ H Q I h => h.elim (h1.run pins s σ H Q I) (h2.run pins s σ H Q I)⟩
end K3
namespace K3
open PySem PySem.Spec PyProof.Rows L2
/-! ### the truth of an own object -/
structure Tru (P : Program) (w : World) (K : PySem.W.Frag) (mg : Str → Option Value) (base : Heap) (C : Addr) (b : Bool) (f : Addr) (fd : FuncData) : Prop where
  ok : FnOk P w K mg base CX0 1 f fd ["self"] (spTruth b)
  fi : PySem.W.findIn K (.ref C) "__bool__" = some (some (.ref f))
  fn : PySem.W.isFn K (.ref f) = true
  bi : Binds K fd ["self"] []
section
variable {X : Cx} {pins : List (Addr × Obj)} {σ : L2.St} {H : Hp} {s : Shared} {A : Around} {E : Value → Shared → Prop} {p C dx f : Addr} {fs : List (Str × V)} {b : Bool} {fd : FuncData}
theorem tru_run (I : Inv X pins σ H s) (D : Tru X.prog X.w X.K X.mg X.base C b f fd) (hp : H p = some (.ins C dx fs)) (e0 : Env0 X.prog X.w X.K X.mg X.base A X.stack s H) (hr : Room 1 A) {Q : Bool → Shared → Prop} (q : ∀ s', Inv X pins σ H s' → Q b s') :
    wpAny (model X.prog X.w) A (truthy (.ref p)) Q E s := by
  obtain ⟨mA, om, _⟩ := ins_get I.hok hp
  obtain ⟨od, J, _⟩ := om.look
  obtain ⟨m, fr⟩ := I.fr
  refine PySem.W.truthy_K fr I.ok.mod.kin J D.fi D.fn (wpAny_call (codeAny_mono (D.ok.run A X.stack s H ⟨[.ref p], []⟩ [.ref p] [.ref p] (fun v H' => v = .bl b ∧ H' = H) E0 hr e0 (D.bi s [.ref p] I.kIn rfl) (.cons rfl .nil) ⟨_, rfl, rfl, rfl⟩) fun r s' hq => ?_))
  cases r with
  | error e => exact (show False from hq).elim
  | ok fl =>
    cases fl with
    | next => exact False.elim hq
    | brk => exact False.elim hq
    | cont => exact False.elim hq
    | ret u =>
      obtain ⟨v, H', J', rv, ev, eH⟩ := I.after hq
      subst ev eH
      obtain rfl : u = Value.bool b := rv
      exact q s' J'
/-- of one of two classes -/
def IsTru (CR CW : Addr) (H : Hp) (x : V) (b : Bool) : Prop := ∃ p dx fs, x = .ref p ∧ ((b = true ∧ H p = some (.ins CR dx fs)) ∨ (b = false ∧ H p = some (.ins CW dx fs)))
variable {CR CW fR fW : Addr} {fdR fdW : FuncData}
theorem tru_one (I : Inv X pins σ H s) (DR : Tru X.prog X.w X.K X.mg X.base CR true fR fdR) (DW : Tru X.prog X.w X.K X.mg X.base CW false fW fdW) {x : V} {u : Value} (rx : RelV x u) (h : IsTru CR CW H x b) (e0 : Env0 X.prog X.w X.K X.mg X.base A X.stack s H) (hr : Room 1 A) {Q : Bool → Shared → Prop} (q : ∀ s', Inv X pins σ H s' → Q b s') :
    wpAny (model X.prog X.w) A (truthy u) Q E s := by
  obtain ⟨p, dx, fs, rfl, h⟩ := h
  obtain rfl : u = Value.ref p := rx
  rcases h with ⟨rfl, h⟩ | ⟨rfl, h⟩
  · exact tru_run I DR h e0 hr q
  · exact tru_run I DW h e0 hr q
def tTru (CR CW : Addr) (te : TE) : TT := fun σ H Q => te σ H fun x H1 => ∃ b, IsTru CR CW H1 x b ∧ Q b H1
theorem pt_tru {e : Expr} {te : TE} (he : PE X e te) (hr : Room 1 X.A) (DR : Tru X.prog X.w X.K X.mg X.base CR true fR fdR) (DW : Tru X.prog X.w X.K X.mg X.base CW false fW fdW)
    (ht : ∀ whole, isTrue e X.env whole = (do let v ← whole; standAt e.pos; holding [v] (truthy v)) := by intro _; rfl) : PT X e (tTru CR CW te) := by
  refine ⟨fun pins s σ H Q I hw => ?_⟩
  exact isTrue_plain (thn (he.run pins s σ H _ I hw) fun v s1 ⟨x, H1, I1, r1, b, hx, q⟩ => tru_one I1 DR DW r1 hx I1.env0 hr fun s' J => ⟨H1, J, q⟩) (ht _)
theorem call_boolO (hr : Room 3 X.A) (DR : Tru X.prog X.w X.K X.mg X.base CR true fR fdR) (DW : Tru X.prog X.w X.K X.mg X.base CW false fW fdW) : CallR X (.type "bool") (fun xs H Q => ∃ x b, xs = [x] ∧ IsTru CR CW H x b ∧ Q (.bl b) H) := by
  intro pins s σ H xs us Q I r h
  obtain ⟨x, b, rfl, hx, q⟩ := h
  obtain ⟨u, rfl, ru⟩ := vals1 r
  refine callType_codes (Q₁ := fun obj s₁ => s₁.TypeIs obj "bool" ∧ EP X pins σ Q obj s₁) F.called_bool (F.typeCall_bool_1 _) F.entry_object_init ?_ fun obj s₁ h₁ => ?_
  · refine codeAny_of_tree ?_
    show wpAny _ X.A.in1.in1 (do checkBuiltinCall "bool.__new__" ⟨[.type "bool", u], []⟩; again (.builtin "bool.__new__" ⟨[.type "bool", u], []⟩)) _ _ s
    refine wpAny_bind (wpAny_of_eq (F.newCall_bool_1 u) (wpAny_pure ⟨Code.quiet_builtin _ (by decide +kernel), codeAny_builtin F.entry_bool_new ?_⟩))
    rw [Around.under_plainId (show plainId "bool.__new__" = true by decide +kernel) _]
    have sub0 := F.conv_sub_bool
    have tr : ∀ {E : Value → Shared → Prop} {Q' : Bool → Shared → Prop}, (∀ s', Inv X pins σ H s' → Q' b s') → wpAny (model X.prog X.w) X.A.in1.in1 (truthy u) Q' E s := fun q' => tru_one I DR DW ru hx I.env0.in1.in1 (hr.in1.in1.mono (by decide)) q'
    obtain ⟨hp0, gg, dd, tt, oo⟩ := s
    repeat (any_goals (first | assumption | (with_reducible refine tr fun s' J => ?_) | wp_step))
    exact ⟨rfl, .bl b, H, J, rfl, q⟩
  · exact ⟨h₁.1, F.args_object_init_2 obj _, object_init_meets F.called_bool.init.lookup F.called_bool.made (by decide) X.prog X.w X.A.in1 _ s₁ ⟨h₁.1, rfl, h₁.2⟩⟩
end
end K3
namespace K3
open PySem PySem.Spec PyProof.Rows L2
section
variable {X : Cx} {o e : Expr} {es : List Expr} {te : TE} {ta : TA} {p p1 p2 pos : Pos}
/-- {x}, x None -/
def tFmtN (te : TE) : TE := fun σ H Q => te σ H fun x H1 => x = .non ∧ Q (.str "None") H1
theorem pe_fmtN (he : PE X e te) : PE X (.FormattedValue e (-1) none pos) (tFmtN te) := by
  refine ⟨fun pins s σ H Q I h => ?_⟩
  refine wpAny_FormattedValue_plain (thn (he.run pins s σ H _ I h) fun v s1 ⟨x, H1, I1, r1, ex, q⟩ => ?_)
  subst ex
  cases (show v = Value.none from r1)
  exact wpAny_formatField_none ⟨.str "None", H1, I1.tok _, ⟨_, rfl⟩, q⟩
/-- B.__init__(self, ..), B an own class that has ValueError's -/
theorem pe_binit {B : Addr} {b : Str} {pl : Sem Bool} (hg : Gl X b) (hm : X.mg b = some (.ref B)) (sg : PySem.W.specialIn X.K (.ref B) "__getattribute__" = some (some (.builtin "type.__getattribute__"))) (rd : PySem.W.readsIn X.K B (.type "type") = true)
    (fi : PySem.W.findCls X.K (.ref B) (.type "type") "__init__" = some (.val (.builtin "ValueError.__init__"))) (ha : PA X (e :: es) ta)
    (hc : eval (.Call (.Attribute (.Name b p1) "__init__" p2) (e :: es) [] pos) X.env = (do
      let ov ← eval (.Name b p1) X.env
      standAt p2.atName
      let (f, first) ← holding [ov] (getMethod ov "__init__" pl)
      callWith pos f first (backTo pos (starEach (e :: es) X.env)) (backToKw pos (keywordEach [] X.env))) := by rfl)
    (hdb : (b == ("__debug__" : Str)) = false := by decide) (he : starEach (e :: es) X.env = (false, eval e X.env) :: starEach es X.env := by rfl) (hpl : (backTo pos (starEach es X.env)).any (·.1) = false := by rfl) :
    PE X (.Call (.Attribute (.Name b p1) "__init__" p2) (e :: es) [] pos) (tVeI X.K ta) := by
  refine ⟨fun pins s σ H Q I h => ?_⟩
  refine PySem.W.methodCall_KW (ld_glob I hg hm ?_ hdb) hc
  refine PySem.W.method_cls I.kIn sg (PySem.W.cls_value I.kIn rd fi (by decide +kernel) ?_)
  show wpAny _ _ (callWith pos (Value.builtin "ValueError.__init__") [] (backTo pos (starEach (e :: es) X.env)) []) _ _ _
  refine PyProof.Rows.callWith_method1 (thn (ha.run pos pins _ σ H _ (I.tok _) h) fun us s1 ⟨vs, H1, I1, r1, a, C, ws, ev, hl, T, ea, q⟩ => ?_) he hpl
  subst ev
  cases r1 with
  | @cons _ u0 _ ur ra rr =>
    cases (show u0 = Value.ref a from ra)
    exact oinit_ok T I1 ea (by rw [← Paired.length rr]; exact sz (by omega)) fun s' J => ⟨.non, H1, J, rfl, q⟩
end
section
variable {P : Program} {w : World} {K : PySem.W.Frag} {mg : Str → Option Value} {base : Heap} {C CB : Addr}
/-! ### BadPipe -/
structure TxtB (K : PySem.W.Frag) (mg : Str → Option Value) (CB B : Addr) : Prop where
  ox : OexC K CB
  no : PySem.W.findIn K (.ref CB) "name" = some none
  gB : mg "BeatError" = some (.ref B)
  sg : PySem.W.specialIn K (.ref B) "__getattribute__" = some (some (.builtin "type.__getattribute__"))
  rd : PySem.W.readsIn K B (.type "type") = true
  fi : PySem.W.findCls K (.ref B) (.type "type") "__init__" = some (.val (.builtin "ValueError.__init__"))
def bpD : List (Str × V) := [("name", .non)]
def spBP (CB : Addr) : Sp := fun vs H Q _ => ∃ a, vs = [.ref a, .non] ∧ H a = some (exo a CB none) ∧ ∀ dx, H dx = none → dx ≠ a → Q .non (upd (upd H dx (exd dx bpD)) a (exo a CB (some dx)))
theorem scBP : FnScope ["self", "name"] ["self", "name"] (defScope sBadPipeInit) := ⟨rfl, rfl, rfl, by decide +kernel, rfl, by decide +kernel, by decide +kernel⟩
theorem ok_bp {B f : Addr} {fd : FuncData} (F : Fun K "__init__" "BadPipe.__init__" sBadPipeInit f fd) (TB : TxtB K mg CB B) : FnOk P w K mg base CX0 1 f fd ["self", "name"] (spBP CB) := by
  refine F.ok scBP (fun vs H Q E h => ?_) (fun cdv A outer s H vs Q E hr h => ?_)
  · obtain ⟨a, rfl, _⟩ := h
    rfl
  · obtain ⟨a, rfl, ha, k⟩ := h
    refine ⟨_, pss_cons (ps_expr (pe_binit (by rfl) TB.gB TB.sg TB.rd TB.fi (pa_cons (pv 0) (pa_cons (pe_joined (.cons pe_str (.cons (pe_fmtN (pv 1)) .nil))) pa_nil)))) (pss_one (ps_ost (pv 0) (pv 1))), ?_⟩
    refine ⟨_, rfl, _, rfl, sz (by decide +kernel), _, rfl, rfl, _, rfl, sz (by decide +kernel), a, CB, _, rfl, (by show 1 ≤ 1000; decide), TB.ox, ha, ?_⟩
    refine ⟨_, rfl, _, rfl, a, CB, rfl, TB.ox, TB.no, .inl ⟨ha, fun dx n1 n2 => ?_⟩⟩
    exact k dx n1 n2
/-! ### choices -/
/-- a pair of a price and a pipe -/
def GdC (C : Addr) (H : Hp) (x : V) : Prop := ∃ ta pr p dx fs, x = .ref ta ∧ H ta = some (.tup [.int pr, .ref p]) ∧ H p = some (.ins C dx fs)
/-- none -/
def BdC (C : Addr) (H : Hp) (x : V) : Prop := (∃ ta, x = .ref ta ∧ H ta = some (.tup [.int 1, .int 2])) ∨ (∃ ta v, x = .ref ta ∧ H ta = some (.tup [.bl true, v])) ∨ ∃ p dx fs, x = .ref p ∧ H p = some (.ins C dx fs)
structure InsF (K : PySem.W.Frag) (C : Addr) : Prop where
  i : C8.InsC K C
  kI : PySem.W.kitOne K (.type "int") (.ref C) = some false
  kT : PySem.W.kitOne K (.ref C) (.type "tuple") = some false
def spNum2 : Sp := fun vs H Q _ => (∃ i : Int, vs = [.int i] ∧ Q (.bl true) H) ∨ ∃ b : Bool, vs = [.bl b] ∧ Q (.bl false) H
theorem ok_num2 {f : Addr} {fd : FuncData} (F : Fun K "is_number" "is_number" sNum f fd) (T : Txt K mg) : FnOk P w K mg base CX0 1 f fd ["thing"] spNum2 := by
  refine F.ok scNum (fun vs H Q E h => ?_) (fun cdv A outer s H vs Q E hr h => ?_)
  · rcases h with ⟨i, rfl, _⟩ | ⟨i, rfl, _⟩ <;> rfl
  · refine ⟨_, pss_one (ps_ret (pe_and (pe_callB call_isi (by rfl) T.isinst (by decide +kernel) (pa_cons (pv 0) (pa_cons (pe_bltn (v := .ty "int") (by rfl) T.int (by decide +kernel) rfl) pa_nil)))
      (pe_one (pe_not (pe_callB call_isi (by rfl) T.isinst (by decide +kernel) (pa_cons (pv 0) (pa_cons (pe_bltn (v := .ty "bool") (by rfl) T.bool (by decide +kernel) rfl) pa_nil))))))), ?_⟩
    rcases h with ⟨i, rfl, k⟩ | ⟨b, rfl, k⟩
    · refine ⟨_, rfl, .int i, .ty "int", .type "int", .type "int", true, rfl, .ty "int", .base (.int i), kit_ty (by decide +kernel), true, rfl, ?_⟩
      refine iteT ?_
      exact ⟨_, rfl, .int i, .ty "bool", .type "int", .type "bool", false, rfl, .ty "bool", .base (.int i), kit_ty (by decide +kernel), false, rfl, k⟩
    · refine ⟨_, rfl, .bl b, .ty "int", .type "bool", .type "int", true, rfl, .ty "int", .base (.bl b), kit_ty (by decide +kernel), true, rfl, ?_⟩
      refine iteT ?_
      exact ⟨_, rfl, .bl b, .ty "bool", .type "bool", .type "bool", true, rfl, .ty "bool", .base (.bl b), kit_ty (by decide +kernel), true, rfl, k⟩
def spIsCh (C : Addr) : Sp := fun vs H Q _ => ∃ x, vs = [x] ∧ ((GdC C H x ∧ Q (.bl true) H) ∨ (BdC C H x ∧ Q (.bl false) H))
theorem scIsCh : FnScope ["thing"] ["thing"] (defScope sIsCh) := ⟨rfl, rfl, rfl, by decide +kernel, rfl, by decide +kernel, by decide +kernel⟩
theorem ok_isCh {f fN : Addr} {fd fdN : FuncData} (F : Fun K "is_choice" "is_choice" sIsCh f fd) (T : Txt K mg) (TC : TxtC K mg C) (IC : InsF K C) (DN : Dfn P w K mg base "is_number" 1 ["thing"] spNum2 fN fdN) : FnOk P w K mg base CX0 2 f fd ["thing"] (spIsCh C) := by
  refine F.ok scIsCh (fun vs H Q E h => ?_) (fun cdv A outer s H vs Q E hr h => ?_)
  · obtain ⟨x, rfl, _⟩ := h
    rfl
  · obtain ⟨x, rfl, h⟩ := h
    refine ⟨_, pss_cons (ps_if (PW.pt (pw_or (pt_not (pt_val (pe_callB call_isi (by rfl) T.isinst (by decide +kernel) (pa_cons (pv 0) (pa_cons (pe_bltn (v := .ty "tuple") (by rfl) T.tuple (by decide +kernel) rfl) pa_nil)))))
        (pw_or1 (pt_cmpR op_ne (pe_callB call_len_seq (by rfl) T.len PySem.boot_len (pa_cons (pv 0) pa_nil)) pe_int (nomark _))))) (pss_one (ps_ret pe_bl)) pss_nil)
      (pss_one (ps_ret (pe_and (pcl DN hr (pa_cons (pe_ix ix_tup (pv 0) pe_int (fun _ _ => rfl)) pa_nil))
        (pe_one (pe_callB call_isi (by rfl) T.isinst (by decide +kernel) (pa_cons (pe_ix ix_tup (pv 0) pe_int (fun _ _ => rfl)) (pa_cons (pgl (v := .ref C) ⟨_, TC.mgC, rfl⟩) pa_nil))))))), ?_⟩
    rcases h with ⟨⟨ta, pr, p, dx, fs, rfl, hta, hp⟩, k⟩ | ⟨⟨ta, rfl, hta⟩ | ⟨ta, v, rfl, hta⟩ | ⟨p, dx, fs, rfl, hp⟩, k⟩
    · refine ⟨_, rfl, .ref ta, .ty "tuple", .type "tuple", .type "tuple", true, rfl, .ty "tuple", .base (.tup hta), kit_ty (by decide +kernel), true, rfl, ?_⟩
      refine iteF ?_
      refine ⟨_, rfl, ta, _, rfl, .inr (SqT.of hta), rfl, _, rfl, ?_⟩
      refine iteF ?_
      refine ⟨_, rfl, ta, _, 0, _, rfl, rfl, SqT.of hta, rfl, .inl ⟨pr, rfl, ?_⟩⟩
      refine ⟨true, rfl, iteT ?_⟩
      refine ⟨_, rfl, ta, _, 1, _, rfl, rfl, SqT.of hta, rfl, .ref p, .ref C, .ref C, .ref C, true, rfl, .own C, .base (.ins hp IC.i.cl IC.i.ha IC.i.hn IC.i.htk IC.i.hm), IC.i.me, k⟩
    · refine ⟨_, rfl, .ref ta, .ty "tuple", .type "tuple", .type "tuple", true, rfl, .ty "tuple", .base (.tup hta), kit_ty (by decide +kernel), true, rfl, ?_⟩
      refine iteF ?_
      refine ⟨_, rfl, ta, _, rfl, .inr (SqT.of hta), rfl, _, rfl, ?_⟩
      refine iteF ?_
      refine ⟨_, rfl, ta, _, 0, _, rfl, rfl, SqT.of hta, rfl, .inl ⟨1, rfl, ?_⟩⟩
      refine ⟨true, rfl, iteT ?_⟩
      refine ⟨_, rfl, ta, _, 1, _, rfl, rfl, SqT.of hta, rfl, .int 2, .ref C, .type "int", .ref C, false, rfl, .own C, .base (.int 2), IC.kI, k⟩
    · refine ⟨_, rfl, .ref ta, .ty "tuple", .type "tuple", .type "tuple", true, rfl, .ty "tuple", .base (.tup hta), kit_ty (by decide +kernel), true, rfl, ?_⟩
      refine iteF ?_
      refine ⟨_, rfl, ta, _, rfl, .inr (SqT.of hta), rfl, _, rfl, ?_⟩
      refine iteF ?_
      refine ⟨_, rfl, ta, _, 0, _, rfl, rfl, SqT.of hta, rfl, .inr ⟨true, rfl, ?_⟩⟩
      exact ⟨false, rfl, iteF k⟩
    · refine ⟨_, rfl, .ref p, .ty "tuple", .ref C, .type "tuple", false, rfl, .ty "tuple", .base (.ins hp IC.i.cl IC.i.ha IC.i.hn IC.i.htk IC.i.hm), IC.kT, false, rfl, ?_⟩
      exact iteT (iteT k)
end
end K3
namespace K3
open PySem PySem.Spec PyProof.Rows L2
section
variable {P : Program} {w : World} {K : PySem.W.Frag} {mg : Str → Option Value} {base : Heap} {C CB : Addr}
/-! ### check_choices -/
theorem GdC.same {H H' : Hp} {x : V} (h : GdC C H x) (s : Same H H') : GdC C H' x := let ⟨ta, pr, p, dx, fs, h1, h2, h3⟩ := h; ⟨ta, pr, p, dx, fs, h1, s _ _ h2, s _ _ h3⟩
theorem BdC.same {H H' : Hp} {x : V} (h : BdC C H x) (s : Same H H') : BdC C H' x := by
  rcases h with ⟨ta, h1, h2⟩ | ⟨ta, v, h1, h2⟩ | ⟨p, dx, fs, h1, h2⟩
  · exact .inl ⟨ta, h1, s _ _ h2⟩
  · exact .inr (.inl ⟨ta, v, h1, s _ _ h2⟩)
  · exact .inr (.inr ⟨p, dx, fs, h1, s _ _ h2⟩)
/-- a list or a tuple -/
def sqO (b : Bool) (xs : List V) : HO := match b with
  | true => .lst xs
  | false => .tup xs
/-- the class's own __init__, as raise finds it -/
structure MkB (P : Program) (w : World) (K : PySem.W.Frag) (mg : Str → Option Value) (base : Heap) (CB f : Addr) (fd : FuncData) : Prop where
  ok : FnOk P w K mg base CX0 1 f fd ["self", "name"] (spBP CB)
  fi : PySem.W.findIn K (.ref CB) "__init__" = some (some (.ref f))
  ty : PySem.W.typeIn K (.ref f) = some (.type "function")
  bi : Binds K fd ["self", "name"] []
  gC : mg "BadPipe" = some (.ref CB)
def spChkC (C CB : Addr) : Sp := fun vs H Q E => ∃ v, vs = [v] ∧ ((∃ ca xs b, v = .ref ca ∧ H ca = some (sqO b xs) ∧ (∀ x ∈ xs, GdC C H x) ∧ xs.length ≤ 40 ∧ ∀ H', Same H H' → Q .non H') ∨
  ((v = .non ∨ ∃ ca x, v = .ref ca ∧ H ca = some (.lst [x]) ∧ BdC C H x) ∧ ∀ d H', Same H H' → H' d = some (.xd bpD) → E (.ref CB) (some d) H'))
abbrev nCkC : List Str := ["choices", "thing"]
theorem scCkC : FnScope nCkC ["choices"] (defScope sChkCh) := ⟨rfl, rfl, rfl, by decide +kernel, rfl, by decide +kernel, by decide +kernel⟩
theorem ok_chkC {f fI fB : Addr} {fd fdI fdB : FuncData} {B : Addr} (F : Fun K "check_choices" "check_choices" sChkCh f fd) (T : Txt K mg) (TB : TxtB K mg CB B) (MB : MkB P w K mg base CB fB fdB) (DI : Dfn P w K mg base "is_choice" 2 ["thing"] (spIsCh C) fI fdI) :
    FnOk P w K mg base (L2.CX P w) 3 f fd ["choices"] (spChkC C CB) := by
  refine F.okX scCkC (fun vs H Q E h => ?_) (fun cdv A outer s H vs Q E hr h => ?_)
  · obtain ⟨x, rfl, _⟩ := h
    rfl
  · obtain ⟨v, rfl, h⟩ := h
    have nd := scCkC.nd
    refine ⟨_, pss_cons (ps_if (PW.pt (pw_or (pt_not (pt_val (pe_callB call_isiT (by rfl) T.isinst (by decide +kernel) (pa_cons (pv 0) (pa_cons (ptup (pa_cons (pe_bltn (v := .ty "list") (by rfl) T.list (by decide +kernel) rfl) (pa_cons (pe_bltn (v := .ty "tuple") (by rfl) T.tuple (by decide +kernel) rfl) pa_nil))) pa_nil)))))
        (pw_or1 (pt_cmpR op_gt (pe_callB call_len_seq (by rfl) T.len PySem.boot_len (pa_cons (pv 0) pa_nil)) (pgl T.m6) (nomark _)))))
        (pss_one (ps_raise rfl (takes_of rfl rfl rfl rfl) (pmk_oex TB.ox MB.fi MB.ty MB.ok hr MB.bi .nil pass0 (by rfl) MB.gC (pa_cons pe_non pa_nil)))) pss_nil)
      (pss_one (ps_if (pt_not (pt_val (pe_callB (cr_all rfl) (by rfl) T.all (by decide +kernel) (pa_cons
          (pe_lc (own := [("thing", 1)]) (g := gName 1) (by rfl) nd (pi_or (pi_list (pv 0)) (pi_tup (pv 0))) (blkOk_by (N := nCkC) (sc := defScope sChkCh) (by decide +kernel))
            (fun _ _ _ _ _ => pg_name (i := 1) nd rfl (.inl rfl)) (fun _ _ _ _ _ => pts_nil)
            (fun _ _ _ _ _ => pcl DI hr (pa_cons (pv 1) pa_nil))) pa_nil))))
        (pss_one (ps_raise rfl (takes_of rfl rfl rfl rfl) (pmk_oex TB.ox MB.fi MB.ty MB.ok hr MB.bi .nil pass0 (by rfl) MB.gC (pa_cons pe_non pa_nil)))) pss_nil)), ?_⟩
    have kL : PySem.W.kitAny K (.type "list") [.type "list", .type "tuple"] = some true := kitAny_cons (b := true) (kit_ty (by decide +kernel)) (fun z => nomatch z) (fun _ => rfl)
    have kT : PySem.W.kitAny K (.type "tuple") [.type "list", .type "tuple"] = some true := kitAny_cons (b := false) (kit_ty (by decide +kernel)) (fun _ => kitAny_cons (b := true) (kit_ty (by decide +kernel)) (fun z => nomatch z) (fun _ => rfl)) (fun z => nomatch z)
    have kN : PySem.W.kitAny K (.type "NoneType") [.type "list", .type "tuple"] = some false := kitAny_cons (b := false) (kit_ty (by decide +kernel)) (fun _ => kitAny_cons (b := false) (kit_ty (by decide +kernel)) (fun _ => rfl) (fun z => nomatch z)) (fun z => nomatch z)
    have exD : ∀ {H' : Hp}, Same H H' → (∀ d H'', Same H H'' → H'' d = some (.xd bpD) → E (.ref CB) (some d) H'') → ∀ a, H' a = none → ∀ dx, (upd H' a (exo a CB none)) dx = none → dx ≠ a →
        E (.ref CB) (some dx) (upd (del (upd (upd (upd H' a (exo a CB none)) dx (exd dx bpD)) a (exo a CB (some dx))) a) dx (.xd bpD)) := fun {H'} s k a na dx ndx ne => by
      rw [upd_ne ne] at ndx
      refine k dx _ (fun b o e => ?_) upd_same
      have e' := s _ _ e
      rw [upd_ne (ne_of_none e' ndx), del_ne (ne_of_none e' na), upd_ne (ne_of_none e' na), upd_ne (ne_of_none e' ndx), upd_ne (ne_of_none e' na)]
      exact e'
    have rs : ∀ {H' : Hp}, Same H H' → (∀ d H'', Same H H'' → H'' d = some (.xd bpD) → E (.ref CB) (some d) H'') → [V.non].length ≤ 1000 ∧ ∀ a, H' a = none → spBP CB (.ref a :: ([V.non] ++ [])) (upd H' a (exo a CB none))
        (fun v H2 => v = .non ∧ ∃ (d : Addr) (fs : List (Str × V)), H2 a = some (exo a CB (some d)) ∧ H2 d = some (exd d fs) ∧ H' d = none ∧ E (.ref CB) (some d) (upd (del H2 a) d (.xd fs))) (fun _ _ _ => False) := fun {H'} s k =>
      ⟨by show 1 ≤ 1000; decide, fun a na => ⟨a, rfl, upd_same, fun dx ndx ne => ⟨rfl, dx, bpD, upd_same, by rw [upd_ne ne]; exact upd_same, by rw [upd_ne ne] at ndx; exact ndx, exD s k a na dx ndx ne⟩⟩⟩
    rcases h with ⟨ca, xs, b, rfl, hca, hg, hl, k⟩ | ⟨h | ⟨ca, x, rfl, hca, hb⟩, k⟩
    · refine ⟨_, rfl, ?_⟩
      refine rd_t2 fun t H1 s1 ht => ?_
      have hca1 := s1 _ _ hca
      have fin : ∀ {D : Addr} {H2 : Hp}, Same H1 H2 → H2 D = some (.lst ((xs.take xs.length).map fun _ => V.bl true)) → SqL K H2 D ((xs.map fun _ => true).map V.bl) ∧ (xs.map fun _ => true).all id = true := fun {D H2} s hD => by
        rw [List.take_length] at hD
        exact ⟨by rw [List.map_map]; exact SqL.of hD, by simp⟩
      cases b with
      | true =>
        refine ⟨.ref ca, t, _, .type "list", _, true, rfl, ht, .cons (.ty "list") (.cons (.ty "tuple") .nil), .base (.lst hca1), kL, true, rfl, ?_⟩
        refine iteF ⟨_, rfl, ca, xs, rfl, .inl (SqL.of hca1), _, _, rfl, rfl, _, rfl, ?_⟩
        rw [decide_eq_false (show ¬ (40 : Int) < (xs.length : Int) by omega)]
        refine iteF (.inl ⟨_, rfl, ca, rfl, ⟨_, SqL.of hca1⟩, fun D nD => lc_it (walk_list (K := K) (a := ca) (xs := xs)) (fun j H'' => Same H1 H'' ∧ H'' D = some (.lst ((xs.take j).map fun _ => V.bl true)))
          ⟨same_upd nD, upd_same⟩ (fun j H'' _ hh => SqL.of (hh.1 _ _ hca1)) ?_ ?_⟩)
        · rintro j y H'' H3 hj ⟨s2, hD⟩ ⟨rfl, hy⟩
          refine ⟨rfl, ?_⟩
          refine ⟨_, rfl, y, rfl, .inl ⟨(hg y (List.mem_of_getElem? hy)).same (s1.trans s2), _, hD, ?_, s2.mut nD, ?_⟩⟩
          · rw [List.length_map, List.length_take]
            exact szl (by omega)
          · rw [upd_same, map_take_succ hy]
        · rintro H2 ⟨s2, hD⟩
          obtain ⟨f1, f2⟩ := fin s2 hD
          exact ⟨D, _, rfl, f1, true, by rw [f2], iteF (k H2 (s1.trans s2))⟩
      | false =>
        refine ⟨.ref ca, t, _, .type "tuple", _, true, rfl, ht, .cons (.ty "list") (.cons (.ty "tuple") .nil), .base (.tup hca1), kT, true, rfl, ?_⟩
        refine iteF ⟨_, rfl, ca, xs, rfl, .inr (SqT.of hca1), _, _, rfl, rfl, _, rfl, ?_⟩
        rw [decide_eq_false (show ¬ (40 : Int) < (xs.length : Int) by omega)]
        refine iteF (.inr ⟨_, rfl, ca, rfl, ⟨_, SqT.of hca1⟩, fun D nD => lc_it (walk_tup (K := K) (a := ca) (xs := xs)) (fun j H'' => Same H1 H'' ∧ H'' D = some (.lst ((xs.take j).map fun _ => V.bl true)))
          ⟨same_upd nD, upd_same⟩ (fun j H'' _ hh => SqT.of (hh.1 _ _ hca1)) ?_ ?_⟩)
        · rintro j y H'' H3 hj ⟨s2, hD⟩ ⟨rfl, hy⟩
          refine ⟨rfl, ?_⟩
          refine ⟨_, rfl, y, rfl, .inl ⟨(hg y (List.mem_of_getElem? hy)).same (s1.trans s2), _, hD, ?_, s2.mut nD, ?_⟩⟩
          · rw [List.length_map, List.length_take]
            exact szl (by omega)
          · rw [upd_same, map_take_succ hy]
        · rintro H2 ⟨s2, hD⟩
          obtain ⟨f1, f2⟩ := fin s2 hD
          exact ⟨D, _, rfl, f1, true, by rw [f2], iteF (k H2 (s1.trans s2))⟩
    · subst h
      refine ⟨_, rfl, ?_⟩
      refine rd_t2 fun t H1 s1 ht => ?_
      refine ⟨.non, t, _, .type "NoneType", _, false, rfl, ht, .cons (.ty "list") (.cons (.ty "tuple") .nil), .base .non, kN, false, rfl, ?_⟩
      exact iteT (rs s1 k)
    · refine ⟨_, rfl, ?_⟩
      refine rd_t2 fun t H1 s1 ht => ?_
      have hca1 := s1 _ _ hca
      refine ⟨.ref ca, t, _, .type "list", _, true, rfl, ht, .cons (.ty "list") (.cons (.ty "tuple") .nil), .base (.lst hca1), kL, true, rfl, ?_⟩
      refine iteF ⟨_, rfl, ca, [x], rfl, .inl (SqL.of hca1), _, _, rfl, rfl, _, rfl, ?_⟩
      refine iteF (.inl ⟨_, rfl, ca, rfl, ⟨_, SqL.of hca1⟩, fun D nD => lc_it (walk_list (K := K) (a := ca) (xs := [x])) (fun j H'' => Same H1 H'' ∧ H'' D = some (.lst (([x].take j).map fun _ => V.bl false)))
        ⟨same_upd nD, upd_same⟩ (fun j H'' _ hh => SqL.of (hh.1 _ _ hca1)) ?_ ?_⟩)
      · rintro j y H'' H3 hj ⟨s2, hD⟩ ⟨rfl, hy⟩
        refine ⟨rfl, ?_⟩
        have hj0 : j = 0 := by simpa using hj
        subst hj0
        cases hy
        exact ⟨_, rfl, _, rfl, .inr ⟨hb.same (s1.trans s2), _, hD, szl (by show 0 ≤ 100000; omega), s2.mut nD, by rw [upd_same]; rfl⟩⟩
      · rintro H2 ⟨s2, hD⟩
        exact ⟨D, [false], rfl, SqL.of hD, false, rfl, iteT (rs (s1.trans s2) k)⟩
end
end K3
namespace K3
open PySem PySem.Spec PyProof.Rows L2
/-! ### the places of what is cheaper -/
def cheapL (prs : List Int) (bar : Int) (j : Nat) : List Nat := (List.range j).filter fun i => decide (prs[i]?.getD 0 < bar)
theorem cheapL_succ {prs : List Int} {bar pr : Int} {j : Nat} (h : prs[j]? = some pr) : cheapL prs bar (j + 1) = cheapL prs bar j ++ (if pr < bar then [j] else []) := by
  unfold cheapL
  rw [List.range_succ, List.filter_append]
  congr 1
  by_cases hp : pr < bar
  · rw [if_pos hp, List.filter_cons_of_pos (by rw [h]; exact decide_eq_true hp)]
    rfl
  · rw [if_neg hp, List.filter_cons_of_neg (by rw [h, Option.getD_some, decide_eq_false hp]; exact Bool.false_ne_true)]
    rfl
theorem cheapL_len (prs : List Int) (bar : Int) (j : Nat) : (cheapL prs bar j).length ≤ j := by
  have := List.length_filter_le (fun i => decide (prs[i]?.getD 0 < bar)) (List.range j)
  rw [List.length_range] at this
  exact this
def nI (l : List Nat) : List V := l.map fun (i : Nat) => V.int (i : Int)
def PrAt (H : Hp) (x : V) (pr : Int) : Prop := ∃ ta v, x = .ref ta ∧ H ta = some (.tup [.int pr, v])
theorem PrAt.same {H H' : Hp} {x : V} {pr : Int} (h : PrAt H x pr) (s : Same H H') : PrAt H' x pr := let ⟨ta, v, h1, h2⟩ := h; ⟨ta, v, h1, s _ _ h2⟩
section
variable {P : Program} {w : World} {K : PySem.W.Frag} {mg : Str → Option Value} {base : Heap} {C CB : Addr}
def spChp : Sp := fun vs H Q _ => ∃ (ca : Addr) (b : Bool) (cs : List V) (prs : List Int) (pl : Nat) (bar : Int), vs = [.ref ca, .int (pl : Int)] ∧ H ca = some (sqO b cs) ∧ Al (PrAt H) cs prs ∧ prs.length ≤ 1000 ∧ prs[pl]? = some bar ∧
  ∀ r H', H r = none → Same H H' → H' r = some (.lst (nI (cheapL prs bar prs.length))) → Q (.ref r) H'
abbrev nChp : List Str := ["choices", "place", "at", "choice"]
theorem scChp : FnScope nChp ["choices", "place"] (defScope sCheaper) := ⟨rfl, rfl, rfl, by decide +kernel, rfl, by decide +kernel, by decide +kernel⟩
theorem ok_chp {f : Addr} {fd : FuncData} (F : Fun K "cheaper_places" "cheaper_places" sCheaper f fd) (T : Txt K mg) : FnOk P w K mg base CX0 1 f fd ["choices", "place"] spChp := by
  refine F.ok scChp (fun vs H Q E h => ?_) (fun cdv A outer s H vs Q E hr h => ?_)
  · obtain ⟨ca, b, cs, prs, pl, bar, rfl, _⟩ := h
    rfl
  · obtain ⟨ca, b, cs, prs, pl, bar, rfl, hca, hal, hl, hbar, k⟩ := h
    have nd := scChp.nd
    refine ⟨_, pss_one (ps_ret (pe_lc (own := [("at", 2), ("choice", 3)]) (by rfl) nd (pi_or (pi_enum (by rfl) T.enumerate (pa_cons (pv 0) pa_nil)) (pi_enumT (by rfl) T.enumerate (pa_cons (pv 0) pa_nil))) (blkOk_by (N := nChp) (sc := defScope sCheaper) (by decide +kernel))
        (fun _ _ _ _ _ => pgT2 K 2 3 nd)
        (fun _ _ _ _ _ => pts_one (pt_cmpR op_lt (pe_ix (ixT K) (pv 3) pe_int (fun _ _ => rfl)) (pe_ix (ixT K) (pe_or2 (pe_ix (ixL K) (pv 0) (pv 1) (fun _ _ => rfl)) (pe_ix (ixT K) (pv 0) (pv 1) (fun _ _ => rfl))) pe_int (fun _ _ => rfl)) (nomark _)))
        (fun _ _ _ _ _ => pv 2))), ?_⟩
    obtain ⟨xb, hxb, tb, vb, rfl, htb⟩ := hal.at' hbar
    have hl1 : cs.length ≤ 1000 := by rw [hal.1]; exact hl
    have turn : ∀ {D : Addr} {j : Nat} {H' : Hp} {Tt : Addr} {x2 : V}, Same H H' → H' D = some (.lst (nI (cheapL prs bar j))) → H D = none → H' Tt = none → cs[j]? = some x2 → ∃ pr tj vj, prs[j]? = some pr ∧ x2 = .ref tj ∧ H tj = some (.tup [.int pr, vj]) := fun {D j H' Tt x2} s hD nD nT e => by
      obtain ⟨pr, hpr, tj, vj, h1, h2⟩ := hal.at e
      exact ⟨pr, tj, vj, hpr, h1, h2⟩
    have step : ∀ {D : Addr} {j : Nat} {H' : Hp} {Tt : Addr} {pr : Int}, Same H H' → H' D = some (.lst (nI (cheapL prs bar j))) → H D = none → H' Tt = none → prs[j]? = some pr → j ≤ 1000 → ∀ {u : HO},
        (pr < bar → ∃ acc, (upd H' Tt u) D = some (.lst acc) ∧ acc.length < sizeLine ∧ Same H (upd (upd H' Tt u) D (.lst (acc ++ [V.int (j : Nat)]))) ∧ (upd (upd H' Tt u) D (.lst (acc ++ [V.int (j : Nat)]))) D = some (.lst (nI (cheapL prs bar (j + 1))))) ∧
        (¬ pr < bar → Same H (upd H' Tt u) ∧ (upd H' Tt u) D = some (.lst (nI (cheapL prs bar (j + 1))))) := fun {D j H' Tt pr} s hD nD nT hpr hj {u} => by
      have sT := same_upd (o := u) nT
      have hD' := sT _ _ hD
      refine ⟨fun hp => ⟨_, hD', ?_, (s.trans sT).mut nD, ?_⟩, fun hp => ⟨s.trans sT, ?_⟩⟩
      · unfold nI
        rw [List.length_map]
        have := cheapL_len prs bar j
        exact szl (by omega)
      · rw [upd_same, cheapL_succ hpr, if_pos hp]
        unfold nI
        rw [List.map_append]
        rfl
      · rw [cheapL_succ hpr, if_neg hp, List.append_nil]
        exact hD'
    cases b with
    | true =>
      have hca' : H ca = some (.lst cs) := hca
      refine .inl ⟨_, rfl, ca, cs, rfl, SqL.of hca', fun D nD => lc_it (walk_enum (K := K) (a := ca) (xs := cs)) (fun j H' => Same H H' ∧ H' D = some (.lst (nI (cheapL prs bar j))))
        ⟨same_upd nD, upd_same⟩ (fun j H' _ hh => SqL.of (hh.1 _ _ hca')) ?_ ?_⟩
      · rintro j y H' H'' hj ⟨s2, hD⟩ ⟨Tt, x1, x2, rfl, nT, rfl, e1, e2⟩
        cases e1
        obtain ⟨pr, tj, vj, hpr, rfl, htj⟩ := turn s2 hD nD nT e2
        obtain ⟨st1, st2⟩ := step s2 hD nD nT hpr (by omega) (u := HO.tup [V.int (j : Nat), V.ref tj])
        have s3 := s2.trans (same_upd (o := HO.tup [V.int (j : Nat), V.ref tj]) nT)
        refine ⟨Tt, _, rfl, SqT.of upd_same, rfl, _, _, rfl, _, _, rfl, rfl, rfl, ?_⟩
        refine ⟨_, rfl, tj, _, 0, _, rfl, rfl, SqT.of (s3 _ _ htj), rfl, .inl ⟨_, rfl, _, rfl, ca, cs, (pl : Int), _, rfl, rfl, SqL.of (s3 _ _ hca'), atI_nat hxb, tb, _, 0, _, rfl, rfl, SqT.of (s3 _ _ htb), rfl, _, _, rfl, rfl, _, rfl, ?_⟩⟩
        by_cases hp : pr < bar
        · rw [decide_eq_true hp]
          obtain ⟨acc, a1, a2, a3, a4⟩ := st1 hp
          exact iteT ⟨_, rfl, acc, a1, a2, a3, a4⟩
        · rw [decide_eq_false hp]
          exact iteF (st2 hp)
      · rintro H2 ⟨s2, hD⟩
        rw [hal.1] at hD
        exact k D H2 nD s2 hD
    | false =>
      have hca' : H ca = some (.tup cs) := hca
      refine .inr ⟨_, rfl, ca, cs, rfl, SqT.of hca', fun D nD => lc_it (walk_enumT (K := K) (a := ca) (xs := cs)) (fun j H' => Same H H' ∧ H' D = some (.lst (nI (cheapL prs bar j))))
        ⟨same_upd nD, upd_same⟩ (fun j H' _ hh => SqT.of (hh.1 _ _ hca')) ?_ ?_⟩
      · rintro j y H' H'' hj ⟨s2, hD⟩ ⟨Tt, x1, x2, rfl, nT, rfl, e1, e2⟩
        cases e1
        obtain ⟨pr, tj, vj, hpr, rfl, htj⟩ := turn s2 hD nD nT e2
        obtain ⟨st1, st2⟩ := step s2 hD nD nT hpr (by omega) (u := HO.tup [V.int (j : Nat), V.ref tj])
        have s3 := s2.trans (same_upd (o := HO.tup [V.int (j : Nat), V.ref tj]) nT)
        refine ⟨Tt, _, rfl, SqT.of upd_same, rfl, _, _, rfl, _, _, rfl, rfl, rfl, ?_⟩
        refine ⟨_, rfl, tj, _, 0, _, rfl, rfl, SqT.of (s3 _ _ htj), rfl, .inr ⟨_, rfl, _, rfl, ca, cs, (pl : Int), _, rfl, rfl, SqT.of (s3 _ _ hca'), atI_nat hxb, tb, _, 0, _, rfl, rfl, SqT.of (s3 _ _ htb), rfl, _, _, rfl, rfl, _, rfl, ?_⟩⟩
        by_cases hp : pr < bar
        · rw [decide_eq_true hp]
          obtain ⟨acc, a1, a2, a3, a4⟩ := st1 hp
          exact iteT ⟨_, rfl, acc, a1, a2, a3, a4⟩
        · rw [decide_eq_false hp]
          exact iteF (st2 hp)
      · rintro H2 ⟨s2, hD⟩
        rw [hal.1] at hD
        exact k D H2 nD s2 hD
end
end K3
namespace K3
open PySem PySem.Spec PyProof.Rows L2
/-! ### two lists, one by one -/
def Bl {α β : Type} (R : α → β → Prop) (xs : List α) (ds : List β) : Prop := xs.length = ds.length ∧ ∀ (i : Nat) (x : α) (d : β), xs[i]? = some x → ds[i]? = some d → R x d
section
variable {α β : Type} {R S : α → β → Prop} {xs : List α} {ds : List β}
theorem Bl.nil : Bl R [] [] := ⟨rfl, fun i x d h => by simp at h⟩
theorem Bl.mono (h : Bl R xs ds) (f : ∀ x d, R x d → S x d) : Bl S xs ds := ⟨h.1, fun i x d a b => f x d (h.2 i x d a b)⟩
theorem Bl.at' (h : Bl R xs ds) {i : Nat} {d : β} (a : ds[i]? = some d) : ∃ x, xs[i]? = some x ∧ R x d := by
  have hi := (List.getElem?_eq_some_iff.mp a).1
  rw [← h.1] at hi
  exact ⟨xs[i], List.getElem?_eq_getElem hi, h.2 i _ d (List.getElem?_eq_getElem hi) a⟩
theorem Bl.at (h : Bl R xs ds) {i : Nat} {x : α} (a : xs[i]? = some x) : ∃ d, ds[i]? = some d ∧ R x d := by
  have hi := (List.getElem?_eq_some_iff.mp a).1
  rw [h.1] at hi
  exact ⟨ds[i], List.getElem?_eq_getElem hi, h.2 i x _ a (List.getElem?_eq_getElem hi)⟩
theorem Bl.snoc (h : Bl R xs ds) {x : α} {d : β} (r : R x d) : Bl R (xs ++ [x]) (ds ++ [d]) := by
  refine ⟨by rw [List.length_append, List.length_append, h.1]; rfl, fun i y e a b => ?_⟩
  by_cases hi : i < xs.length
  · rw [List.getElem?_append_left hi] at a
    rw [List.getElem?_append_left (by rw [← h.1]; exact hi)] at b
    exact h.2 i y e a b
  · rw [List.getElem?_append_right (by omega)] at a
    rw [List.getElem?_append_right (by rw [← h.1]; omega), ← h.1] at b
    cases q : i - xs.length with
    | zero => rw [q] at a b; simp at a b; subst a; subst b; exact r
    | succ n => rw [q] at a; simp at a
theorem Bl.take (h : Bl R xs ds) (n : Nat) : Bl R (xs.take n) (ds.take n) := by
  refine ⟨by rw [List.length_take, List.length_take, h.1], fun i x d a b => ?_⟩
  have hx := List.getElem?_take (l := xs) (i := n) (j := i)
  have hd := List.getElem?_take (l := ds) (i := n) (j := i)
  rw [hx] at a
  rw [hd] at b
  split at a
  · rename_i hlt
    rw [if_pos hlt] at b
    exact h.2 i x d a b
  · cases a
end
/-! ### programs by places -/
abbrev Ag := List (Nat × List Ins)
def agAt (H : Hp) (p : Key × V) (q : Nat × List Ins) : Prop := p.1 = (Sum.inl (q.1 : Int) : Key) ∧ ∃ r, p.2 = .ref r ∧ ProgAt H r q.2
def DAg (H : Hp) (a : Addr) (l : Ag) : Prop := ∃ kvs, H a = some (.dK kvs) ∧ Bl (agAt H) kvs l
def Asc (l : Ag) : Prop := (l.map fun q => q.1).Pairwise (· < ·)
def Prs (H H' : Hp) : Prop := ∀ r is, ProgAt H r is → ProgAt H' r is
theorem _root_.L2.Same.prs {H H' : Hp} (s : Same H H') : Prs H H' := fun r is h => h.same s
theorem agAt.mono {H H' : Hp} (t : Prs H H') {p : Key × V} {q : Nat × List Ins} (h : agAt H p q) : agAt H' p q := let ⟨h1, r, h2, h3⟩ := h; ⟨h1, r, h2, t _ _ h3⟩
theorem DAg.same {H H' : Hp} {a : Addr} {l : Ag} (h : DAg H a l) (s : Same H H') : DAg H' a l := let ⟨kvs, h1, h2⟩ := h; ⟨kvs, s _ _ h1, h2.mono fun _ _ => agAt.mono s.prs⟩
theorem Bl.keys {H : Hp} {kvs : List (Key × V)} {l : Ag} (h : Bl (agAt H) kvs l) : kvs.map (·.1) = (l.map fun q => (q.1 : Int)).map Sum.inl := by
  refine List.ext_getElem? fun i => ?_
  rw [List.getElem?_map, List.getElem?_map, List.getElem?_map]
  cases e : kvs[i]? with
  | none =>
    have := List.getElem?_eq_none_iff.mp e
    rw [List.getElem?_eq_none (by rw [← h.1]; exact this)]
    rfl
  | some p =>
    obtain ⟨q, hq, h1, _⟩ := h.at e
    rw [hq]
    exact congrArg some h1
theorem asc_int {l : Ag} (h : Asc l) : (l.map fun q => (q.1 : Int)).Pairwise (· < ·) := by
  unfold Asc at h
  rw [List.pairwise_map] at h ⊢
  exact h.imp fun q => by omega
theorem asc_sorted {l : Ag} (h : Asc l) {ys : List Int} (p : ys.Perm (l.map fun q => (q.1 : Int))) (s : ys.Pairwise (· ≤ ·)) : ys = l.map fun q => (q.1 : Int) :=
  List.Perm.eq_of_pairwise (fun a b _ _ h1 h2 => Int.le_antisymm h1 h2) s ((asc_int h).imp fun q => by omega) p
theorem asc_nodup {H : Hp} {kvs : List (Key × V)} {l : Ag} (hb : Bl (agAt H) kvs l) (h : Asc l) : (kvs.map (·.1)).Nodup := by
  rw [hb.keys]
  refine List.pairwise_map.mpr ((asc_int h).imp fun q e => ?_)
  have := Sum.inl.inj e
  omega
section
variable {P : Program} {w : World} {K : PySem.W.Frag} {mg : Str → Option Value} {base : Heap} {C CC : Addr}
/-! ### Chosen -/
structure TxtH (K : PySem.W.Frag) (mg : Str → Option Value) (CC : Addr) : Prop where
  cl : Cls K CC
  np : NoAttr K CC "place"
  na : NoAttr K CC "against"
  mgC : mg "Chosen" = some (.ref CC)
def chf (pl : Int) (ag : Addr) : List (Str × V) := [("place", .int pl), ("against", .ref ag)]
theorem chf2 (pl : Int) (ag : Addr) : putF "against" (.ref ag) (putF "place" (.int pl) []) = chf pl ag := by
  rw [show putF "place" (.int pl) [] = [(("place" : Str), V.int pl)] from rfl, putF_ne (by decide +kernel)]; rfl
def ChAt (CC : Addr) (H : Hp) (p : Addr) (pl : Int) (ag : Addr) : Prop := ∃ dx, H p = some (.ins CC dx (chf pl ag))
def spHInit (CC : Addr) : Sp := fun vs H Q _ => ∃ (p dx a : Addr) (pl : Int) (l : Ag), vs = [.ref p, .int pl, .ref a] ∧ H p = some (.ins CC dx []) ∧ DAg H a l ∧ Asc l ∧ l.length ≤ 40 ∧
  ∀ H' ag, But p H H' → ChAt CC H' p pl ag → DAg H' ag l → H ag = none → Q .non H'
abbrev nHI : List Str := ["self", "place", "against", "at"]
theorem scHI : FnScope nHI ["self", "place", "against"] (defScope sChInit) := ⟨rfl, rfl, rfl, by decide +kernel, rfl, by decide +kernel, by decide +kernel⟩
theorem ok_hInit {f fc : Addr} {fd fdc : FuncData} (F : Fun K "__init__" "Chosen.__init__" sChInit f fd) (T : Txt K mg) (TH : TxtH K mg CC) (DC : Dfn P w K mg base "copied_program" 1 ["program"] spCop fc fdc) : FnOk P w K mg base CX0 2 f fd ["self", "place", "against"] (spHInit CC) := by
  refine F.ok scHI (fun vs H Q E h => ?_) (fun cdv A outer s H vs Q E hr h => ?_)
  · obtain ⟨p, dx, a, pl, l, rfl, _⟩ := h
    rfl
  · obtain ⟨p, dx, a, pl, l, rfl, hp, ⟨kvs, ha, hb⟩, asc, hl, k⟩ := h
    have nd := scHI.nd
    have hu := hu_of hr
    refine ⟨_, pss_cons (ps_fld (pv 0) (pv 1) rfl)
      (pss_one (ps_fld (pv 0) (pe_dc (own := [("at", 3)]) (g := gName 3) (by rfl) nd (pi_list (pe_callB (call_sortedDI rfl) (by rfl) T.sorted (by decide +kernel) (pa_cons (pv 2) pa_nil))) (blkOk_by (N := nHI) (sc := defScope sChInit) (by decide +kernel))
          (fun _ _ _ _ _ => pg_name (i := 3) nd rfl (.inl rfl)) (fun _ _ _ _ _ => pts_nil) (fun _ _ _ _ _ => pv 3) (fun _ _ _ _ _ => pcl DC hr (pa_cons (pe_dget hu (pv 2) (pv 3) (fun _ _ => rfl)) pa_nil))) rfl)), ?_⟩
    have ndp : a ≠ p := ne_of ha hp (by intro z; cases z)
    have knd := asc_nodup hb asc
    have hkl : kvs.length ≤ 40 := by rw [hb.1]; exact hl
    refine ⟨_, rfl, _, rfl, p, CC, dx, [], rfl, hp, TH.cl, TH.np, (by show 0 < 1000; decide), ?_⟩
    let H2 := upd H p (.ins CC dx (putF "place" (.int pl) []))
    have hp2 : H2 p = some (.ins CC dx (putF "place" (.int pl) [])) := upd_same
    have b2 : But p H H2 := but_upd
    have ha2 : H2 a = some (.dK kvs) := b2 _ _ ndp ha
    have t2 : Prs H H2 := fun r is ⟨xs, h1, h2⟩ => ⟨xs, b2 _ _ (ne_of h1 hp (by intro z; cases z)) h1, h2.mono fun _ _ z => InAt.mono (fun b ys e => b2 _ _ (fun z => by rw [z, hp] at e; cases e) e) z⟩
    refine ⟨_, rfl, a, kvs, l.map (fun q => (q.1 : Int)), rfl, .inl ha2, hb.keys, by rw [List.length_map]; omega, fun ys q perm srt nq => ?_⟩
    have eys := asc_sorted asc perm srt
    subst eys
    have s3 := same_upd (o := HO.lst ((l.map fun q => (q.1 : Int)).map V.int)) nq
    refine ⟨q, rfl, ⟨_, SqL.of upd_same⟩, fun D nD => dc_it (walk_list (K := K) (a := q) (xs := (l.map fun q => (q.1 : Int)).map V.int)) (fun j H'' => Same H2 H'' ∧ H'' q = some (.lst ((l.map fun q => (q.1 : Int)).map V.int)) ∧ DAg H'' D (l.take j) ∧ D ≠ q)
      ⟨s3.trans (same_upd nD), (same_upd nD) _ _ upd_same, ⟨[], upd_same, Bl.nil⟩, fun z => by rw [z, upd_same] at nD; cases nD⟩ (fun j H'' _ hh => SqL.of hh.2.1) ?_ ?_⟩
    · rintro j y H'' H3 hj ⟨s4, hq4, ⟨kv4, hD4, hb4⟩, nDq⟩ ⟨rfl, hy⟩
      obtain ⟨x, hx, rfl⟩ := map_at hy
      rw [List.getElem?_map] at hx
      obtain ⟨kq, hkq, rfl⟩ := Option.map_eq_some_iff.mp hx
      obtain ⟨⟨k0, v0⟩, hk0, e1, r, e2, hr0⟩ := hb.at' hkq
      have e1' : k0 = (Sum.inl (kq.1 : Int) : Key) := e1
      have e2' : v0 = .ref r := e2
      subst e1' e2'
      have nD2 : H2 D = none := s3.free nD
      obtain ⟨xs, hxs, hal⟩ := (t2 _ _ hr0).same s4
      refine ⟨rfl, ?_⟩
      refine ⟨_, rfl, _, rfl, _, rfl, a, .ref r, rfl, ?_, r, xs, rfl, hxs, fun l1 H5 n1 s5 h1 => ?_⟩
      · rw [← valV_at knd hk0]
        exact .inl ⟨kvs, Sum.inl (kq.1 : Int), .inl (s4 _ _ ha2), rfl, rfl⟩
      have hD5 := s5 _ _ hD4
      have nk : valV kv4 (Sum.inl (kq.1 : Int) : Key) = none := by
        have hb4' : Bl (fun (p : Key × V) (q : Nat × List Ins) => p.1 = (Sum.inl (q.1 : Int) : Key)) kv4 (l.take j) := hb4.mono fun _ _ z => z.1
        cases hv : valV kv4 (Sum.inl (kq.1 : Int) : Key) with
        | none => rfl
        | some vv =>
          exfalso
          unfold valV at hv
          obtain ⟨pp, hpp, _⟩ := Option.map_eq_some_iff.mp hv
          have hm := List.mem_of_find?_eq_some hpp
          have hk' : pp.1 = (Sum.inl (kq.1 : Int) : Key) := by
            have := List.find?_some (p := fun x : Key × V => decide (x.1 = (Sum.inl (kq.1 : Int) : Key))) hpp
            exact of_decide_eq_true this
          obtain ⟨i, hi⟩ := List.mem_iff_getElem?.mp hm
          obtain ⟨q', hq', hz⟩ := hb4'.at hi
          have hij : i < j := by
            have := (List.getElem?_eq_some_iff.mp hq').1
            rw [List.length_take] at this
            omega
          rw [List.getElem?_take_of_lt hij] at hq'
          have hlt := (List.pairwise_iff_getElem.mp (asc_int asc)) i j (by rw [List.length_map]; exact (List.getElem?_eq_some_iff.mp hq').1) (by rw [List.length_map]; exact (List.getElem?_eq_some_iff.mp hkq).1) hij
          have g1 : (l.map fun q => (q.1 : Int))[i]? = some (q'.1 : Int) := by rw [List.getElem?_map, hq']; rfl
          have g2 : (l.map fun q => (q.1 : Int))[j]? = some (kq.1 : Int) := by rw [List.getElem?_map, hkq]; rfl
          rw [List.getElem?_eq_getElem (by rw [List.length_map]; exact (List.getElem?_eq_some_iff.mp hq').1)] at g1
          rw [List.getElem?_eq_getElem (by rw [List.length_map]; exact (List.getElem?_eq_some_iff.mp hkq).1)] at g2
          rw [Option.some.inj g1, Option.some.inj g2] at hlt
          rw [hz] at hk'
          have := Sum.inl.inj hk'
          omega
      have s25 : Same H2 H5 := s4.trans s5
      have sF : Same H2 (upd H5 D (.dK (putK kv4 (Sum.inl (kq.1 : Int)) (.ref l1)))) := s25.mut nD2
      have l1D : l1 ≠ D := fun z => by rw [z, hD5] at h1; cases h1
      have tp : Tups H5 (upd H5 D (.dK (putK kv4 (Sum.inl (kq.1 : Int)) (.ref l1)))) := fun b ys e => by rw [upd_ne (fun z => by rw [z, hD5] at e; cases e)]; exact e
      have pr5 : Prs H5 (upd H5 D (.dK (putK kv4 (Sum.inl (kq.1 : Int)) (.ref l1)))) := fun r' is ⟨xs', g1, g2⟩ => ⟨xs', by rw [upd_ne (fun z => by rw [z, hD5] at g1; cases g1)]; exact g1, g2.mono fun _ _ z => InAt.mono tp z⟩
      refine ⟨kv4, Sum.inl (kq.1 : Int), rfl, hD5, ?_, sF, ?_, ⟨_, upd_same, ?_⟩, nDq⟩
      · rw [hb4.1, List.length_take]
        exact szl (by omega)
      · rw [upd_ne nDq.symm]
        exact s5 _ _ hq4
      · rw [take_succ_at hkq]
        have hb9 := Bl.snoc (x := ((Sum.inl (kq.1 : Int) : Key), V.ref l1)) (d := kq) (hb4.mono fun _ _ z => (z.mono s5.prs).mono pr5) ⟨rfl, l1, rfl, pr5 _ _ ⟨xs, h1, hal.mono fun _ _ z => InAt.mono s5.tups z⟩⟩
        rw [← putK_new _ nk] at hb9
        exact hb9
    · rintro H4 ⟨s4, hq4, hD4, nDq⟩
      rw [List.length_map, List.length_map, List.take_length] at hD4
      have nDp : D ≠ p := fun z => by
        have : H2 D = none := s3.free nD
        rw [z, hp2] at this
        cases this
      have hp4 := s4 _ _ hp2
      refine ⟨_, rfl, p, CC, dx, _, rfl, hp4, TH.cl, TH.na, (by show 1 < 1000; decide), ?_⟩
      rw [chf2]
      have nDH : H D = none := by
        have : H2 D = none := s3.free nD
        have e : H2 D = H D := upd_ne nDp
        rw [← e]
        exact this
      refine k _ D (fun b o n e => ?_) ⟨dx, upd_same⟩ ?_ nDH
      · rw [upd_ne n]
        exact s4 _ _ (b2 b o n e)
      · obtain ⟨kv4, h1, h2⟩ := hD4
        refine ⟨kv4, by rw [upd_ne nDp]; exact h1, h2.mono fun _ _ z => z.mono fun r' is ⟨xs', g1, g2⟩ => ?_⟩
        exact ⟨xs', by rw [upd_ne (fun z => by rw [z, hp4] at g1; cases g1)]; exact g1, g2.mono fun _ _ z => InAt.mono (fun b ys e => by rw [upd_ne (fun z => by rw [z, hp4] at e; cases e)]; exact e) z⟩
end
end K3
namespace K3
open PySem PySem.Spec PyProof.Rows L2
/-! ### choices: prices and pipes, each pipe with what it keeps -/
structure Ch where
  pr : Int
  ti : PI0
  ki : KI
  p : Addr
  kdA : Addr
  c : Addr
  r : List Ins ⊕ List Pe
/-- a program that is played well -/
structure PlOk (ti : PI0) (is : List Ins) : Prop where
  len : is.length ≤ 8
  ok : ∀ i ∈ is, IsIns ti i
  pl : ∃ hs rss es, playS ti is = some (hs, rss, es)
def rightB (ti : PI0) (is : List Ins) : Bool := match playS ti is with
  | some (_, rss, es) => decide ((rss, es) = plainS ti is)
  | none => false
/-- settings, and what the judgement of their pipe is -/
structure ChOk (d : Ch) : Prop where
  one : One d.ti d.ki
  ko : KOk d.ti.ks
  jg : judgeF d.ti (insF d.ki) 6 0 (begin_ d.ti) = some d.r
  wr : ∀ is, d.r = .inl is → PlOk d.ti is ∧ rightB d.ti is = false
  em : PlOk d.ti [] ∧ rightB d.ti [] = true
def Ch.good (d : Ch) : Bool := match d.r with
  | .inl _ => false
  | .inr _ => true
structure ChH (P : Program) (w : World) (C : Addr) (H : Hp) (B : Nat) (x : V) (d : Ch) : Prop where
  tup : ∃ ta, x = .ref ta ∧ H ta = some (.tup [.int d.pr, .ref d.p])
  pi : PipeAt C H d.p d.kdA d.c d.ti
  kd : KdD H d.kdA d.ti.ks
  ca : ∃ xs, CacheAt P w d.ti.ks H d.c xs ∧ xs.length ≤ B
structure Chs (P : Program) (w : World) (C : Addr) (H : Hp) (B : Nat) (cs : List V) (ds : List Ch) : Prop where
  al : Al (ChH P w C H B) cs ds
  nd : (ds.map (·.c)).Nodup
  ok : ∀ d ∈ ds, ChOk d
  len : ds.length ≤ 4
/-- all but what the pipes keep stays -/
def CaBut (ds : List Ch) (H H' : Hp) : Prop := ∀ b o, (∀ d ∈ ds, b ≠ d.c) → H b = some o → H' b = some o
theorem CaBut.refl (ds : List Ch) (H : Hp) : CaBut ds H H := fun _ _ _ e => e
theorem CaBut.trans {ds : List Ch} {H H1 H2 : Hp} (a : CaBut ds H H1) (b : CaBut ds H1 H2) : CaBut ds H H2 := fun q o n e => b q o n (a q o n e)
theorem _root_.L2.Same.ca {ds : List Ch} {H H' : Hp} (s : Same H H') : CaBut ds H H' := fun q o _ e => s q o e
section
variable {P : Program} {w : World} {C : Addr} {H H' : Hp} {B B' : Nat} {cs : List V} {ds : List Ch}
theorem ChH.same {x : V} {d : Ch} (h : ChH P w C H B x d) (s : Same H H') (hB : B ≤ B') : ChH P w C H' B' x d :=
  ⟨let ⟨ta, h1, h2⟩ := h.tup; ⟨ta, h1, s _ _ h2⟩, let ⟨dx, h1⟩ := h.pi; ⟨dx, s _ _ h1⟩, h.kd.same s, let ⟨xs, h1, h2⟩ := h.ca; ⟨xs, h1.same s, Nat.le_trans h2 hB⟩⟩
theorem Chs.same (h : Chs P w C H B cs ds) (s : Same H H') (hB : B ≤ B') : Chs P w C H' B' cs ds := ⟨h.al.mono fun _ _ z => z.same s hB, h.nd, h.ok, h.len⟩
theorem Chs.ext (h : Chs P w C H B cs ds) {d : Ch} (hd : d ∈ ds) : ∃ xs, CacheAt P w d.ti.ks H d.c xs ∧ xs.length ≤ B := by
  obtain ⟨i, hi⟩ := List.mem_iff_getElem?.mp hd
  obtain ⟨x, _, hx⟩ := h.al.at' hi
  exact hx.ca
theorem Chs.ne (h : Chs P w C H B cs ds) {b : Addr} {o : HO} (e : H b = some o) (hn : ∀ φ, o ≠ .ext φ) : ∀ d ∈ ds, b ≠ d.c := fun d hd z => by
  obtain ⟨xs, hx, _⟩ := h.ext hd
  rw [z, hx.at_] at e
  exact hn _ (Option.some.inj e).symm
/-- a pipe's own turn -/
theorem Chs.step (h : Chs P w C H B cs ds) {i : Nat} {d : Ch} (hd : ds[i]? = some d) (bt : But d.c H H') {xs' : List Kp} (hc' : CacheAt P w d.ti.ks H' d.c xs') (hl : xs'.length ≤ B') (hB : B ≤ B') : Chs P w C H' B' cs ds ∧ CaBut ds H H' := by
  obtain ⟨xs, hc, hxs⟩ := h.ext (List.mem_of_getElem? hd)
  have tp := but_tups hc bt
  refine ⟨⟨⟨h.al.1, fun j x e hx he => ?_⟩, h.nd, h.ok, h.len⟩, fun b o n e => bt b o (n d (List.mem_of_getElem? hd)) e⟩
  have q := h.al.2 j x e hx he
  obtain ⟨ta, h1, h2⟩ := q.tup
  refine ⟨⟨ta, h1, tp _ _ h2⟩, (let ⟨dx, h3⟩ := q.pi; ⟨dx, bt _ _ (fun z => by rw [z, hc.at_] at h3; cases h3) h3⟩), q.kd.but bt (fun z => ?_) tp, ?_⟩
  · obtain ⟨kvs, k1, _⟩ := q.kd
    rw [z, hc.at_] at k1
    cases k1
  · by_cases hij : j = i
    · subst hij
      rw [hd] at he
      cases he
      exact ⟨xs', hc', hl⟩
    · have hne : e.c ≠ d.c := fun z => by
        have hj : j < (ds.map (·.c)).length := by rw [List.length_map]; exact (List.getElem?_eq_some_iff.mp he).1
        have hi : i < (ds.map (·.c)).length := by rw [List.length_map]; exact (List.getElem?_eq_some_iff.mp hd).1
        have ej : (ds.map (·.c))[j] = e.c := by rw [List.getElem_map, (List.getElem?_eq_some_iff.mp he).2]
        have ei : (ds.map (·.c))[i] = d.c := by rw [List.getElem_map, (List.getElem?_eq_some_iff.mp hd).2]
        rcases Nat.lt_or_gt_of_ne hij with hlt | hlt
        · exact List.pairwise_iff_getElem.mp h.nd j i hj hi hlt (by rw [ej, ei]; exact z)
        · exact List.pairwise_iff_getElem.mp h.nd i j hi hj hlt (by rw [ej, ei]; exact z.symm)
      obtain ⟨ys, g1, g2⟩ := q.ca
      exact ⟨ys, ⟨bt _ _ hne g1.at_, fun z hz => ⟨(g1.ok z hz).1.mono tp, (g1.ok z hz).2.mono tp⟩⟩, Nat.le_trans g2 hB⟩
theorem Chs.prs (h : Chs P w C H B cs ds) (b : CaBut ds H H') : Prs H H' := fun r is ⟨xs, h1, h2⟩ =>
  ⟨xs, b _ _ (h.ne h1 (fun φ z => by cases z)) h1, h2.mono fun _ _ z => InAt.mono (fun a ys e => b _ _ (h.ne e (fun φ z => by cases z)) e) z⟩
theorem Chs.dag (h : Chs P w C H B cs ds) (b : CaBut ds H H') {a : Addr} {l : Ag} (hd : DAg H a l) : DAg H' a l :=
  let ⟨kvs, h1, h2⟩ := hd; ⟨kvs, b _ _ (h.ne h1 (fun φ z => by cases z)) h1, h2.mono fun _ _ z => z.mono (h.prs b)⟩
theorem Chs.gd (h : Chs P w C H B cs ds) : ∀ x ∈ cs, GdC C H x := fun x hx => by
  obtain ⟨i, hi⟩ := List.mem_iff_getElem?.mp hx
  obtain ⟨d, _, q⟩ := h.al.at hi
  obtain ⟨ta, h1, h2⟩ := q.tup
  obtain ⟨dx, h3⟩ := q.pi
  exact ⟨ta, d.pr, d.p, dx, _, h1, h2, h3⟩
theorem Chs.prices (h : Chs P w C H B cs ds) : Al (PrAt H) cs (ds.map (·.pr)) := by
  refine ⟨by rw [List.length_map]; exact h.al.1, fun i x pr hx hp => ?_⟩
  rw [List.getElem?_map] at hp
  obtain ⟨d, hd, rfl⟩ := Option.map_eq_some_iff.mp hp
  obtain ⟨ta, h1, h2⟩ := (h.al.2 i x d hx hd).tup
  exact ⟨ta, _, h1, h2⟩
end
/-! ### a promise for some settings -/
def exO (sp : PI0 → KI → Sp) : Sp := fun vs H Q E => ∃ ti ki, One ti ki ∧ KOk ti.ks ∧ sp ti ki vs H Q E
theorem FnOk.exO {P : Program} {w : World} {K : PySem.W.Frag} {mg : Str → Option Value} {base : Heap} {k : Nat} {f : Addr} {fd : FuncData} {ps : List Str} {sp : PI0 → KI → Sp}
    (F : ∀ ti ki, One ti ki → KOk ti.ks → FnOk P w K mg base CX0 k f fd ps (sp ti ki)) : FnOk P w K mg base CX0 k f fd ps (K3.exO sp) :=
  ⟨fun vs H Q E ⟨ti, ki, o, ko, q⟩ => (F ti ki o ko).len vs H Q E q, fun A outer s H args us vs Q E hr he hb hv ⟨ti, ki, o, ko, q⟩ => (F ti ki o ko).run A outer s H args us vs Q E hr he hb hv q⟩
/-- a def of the module that may raise -/
structure DfX (P : Program) (w : World) (K : PySem.W.Frag) (mg : Str → Option Value) (base : Heap) (x : Str) (k : Nat) (ps : List Str) (sp : Sp) (f : Addr) (fd : FuncData) : Prop where
  ok : FnOk P w K mg base (L2.CX P w) k f fd ps sp
  mgf : mg x = some (.ref f)
  kp : PySem.W.keepIn K (.ref f) = true
  b : Binds K fd ps []
theorem pclX {X : Cx} {x : Str} {k : Nat} {ps : List Str} {sp : Sp} {f : Addr} {fd : FuncData} {e : Expr} {es : List Expr} {t : TA} {p pos : Pos} (D : DfX X.prog X.w X.K X.mg X.base x k ps sp f fd) (hr : Room k X.A) (ha : PA X (e :: es) t) (hg : Gl X x := by rfl)
    (hdb : (x == ("__debug__" : Str)) = false := by decide) (he : starEach (e :: es) X.env = (false, eval e X.env) :: starEach es X.env := by rfl) (hpl : (backTo pos (starEach es X.env)).any (·.1) = false := by rfl) :
    PE X (.Call (.Name x p) (e :: es) [] pos) (tCall sp [] E0 t) := pe_call D.ok hr hg D.mgf D.kp D.b .nil passL ha hdb he hpl
end K3
namespace K3
open PySem PySem.Spec PyProof.Rows L2
theorem rd_ixC {K : PySem.W.Frag} {σ : L2.St} {H : Hp} {Q : VK} {i j : Nat} {ca : Addr} {cs : List V} {n : Nat} {x : V} (hi : σ[i]? = some (some (.ref ca))) (hj : σ[j]? = some (some (.int (n : Int)))) (hs : SqL K H ca cs ∨ SqT K H ca cs) (hx : cs[n]? = some x) (k : Q x H) :
    tOrE (tOp (rIxL K) (tVar i) (tVar j)) (tOp (rIxT K) (tVar i) (tVar j)) σ H Q := by
  rcases hs with hs | hs
  · exact .inl ⟨_, hi, _, hj, ca, cs, (n : Int), x, rfl, rfl, hs, atI_nat hx, k⟩
  · exact .inr ⟨_, hi, _, hj, ca, cs, (n : Int), x, rfl, rfl, hs, atI_nat hx, k⟩
theorem chf_a (pl : Int) (ag : Addr) : (chf pl ag).lookup ("against" : Str) = some (.ref ag) := by
  unfold chf
  rw [L2.lookup_put, if_neg (by decide +kernel), L2.lookup_put, if_pos rfl]
theorem chf_p (pl : Int) (ag : Addr) : (chf pl ag).lookup ("place" : Str) = some (.int pl) := rfl
theorem sq_or {K : PySem.W.Frag} {H : Hp} {ca : Addr} {b : Bool} {cs : List V} (h : H ca = some (sqO b cs)) : SqL K H ca cs ∨ SqT K H ca cs := by
  cases b with
  | true => exact .inl (SqL.of h)
  | false => exact .inr (SqT.of h)
/-! ### Chosen.shows -/
def rightAt (ds : List Ch) (q : Nat × List Ins) : Bool := match ds[q.1]? with
  | some d => rightB d.ti q.2
  | none => false
def showB (ds : List Ch) (d : Ch) (l : Ag) : Bool := decide (l.map (·.1) = cheapL (ds.map (·.pr)) d.pr (ds.map (·.pr)).length) && !(l.any (rightAt ds)) && d.good
def dN (l : List Nat) : PyData := .list (l.map fun (i : Nat) => PyData.int (i : Int))
theorem dp_nI {K : PySem.W.Frag} {H : Hp} {r : Addr} {l : List Nat} (h : H r = some (.lst (nI l))) : Dp K H (.ref r) (dN l) := by
  have e : nI l = (l.map fun (i : Nat) => (i : Int)).map V.int := by unfold nI; rw [List.map_map]; rfl
  have e2 : dN l = .list ((l.map fun (i : Nat) => (i : Int)).map PyData.int) := by unfold dN; rw [List.map_map]; rfl
  rw [e2]
  rw [e] at h
  exact .lst (SqL.of h) (dp_intsL _)
theorem eqv_dN (a b : List Nat) : PyData.eqv (dN a) (dN b) = decide (a = b) := by
  have e2 : ∀ l : List Nat, dN l = .list ((l.map fun (i : Nat) => (i : Int)).map PyData.int) := fun l => by unfold dN; rw [List.map_map]; rfl
  rw [e2, e2]
  show PyData.eqvAll _ _ = _
  rw [eqv_ints]
  refine Bool.eq_iff_iff.mpr ?_
  rw [decide_eq_true_iff, decide_eq_true_iff]
  constructor
  · intro h
    have h2 := congrArg (List.map Int.toNat) h
    rw [List.map_map, List.map_map] at h2
    have id' : ∀ l : List Nat, List.map (Int.toNat ∘ fun (i : Nat) => (i : Int)) l = l := fun l => by
      have : (Int.toNat ∘ fun (i : Nat) => (i : Int)) = id := by funext i; exact Int.toNat_natCast i
      rw [this, List.map_id]
    rw [id', id'] at h2
    exact h2
  · rintro rfl
    rfl
theorem shaped_dN (l : List Nat) : SeqAt.shaped (dN l) = true := by
  have e2 : dN l = .list ((l.map fun (i : Nat) => (i : Int)).map PyData.int) := by unfold dN; rw [List.map_map]; rfl
  rw [e2]
  exact shaped_ints _
section
variable {P : Program} {w : World} {C : Addr} {H : Hp} {B : Nat} {cs : List V} {ds : List Ch}
theorem Chs.updA (h : Chs P w C H B cs ds) {a : Addr} {o : HO} (na : ∀ d ∈ ds, d.c ≠ a ∧ d.kdA ≠ a ∧ d.p ≠ a) (nt : ∀ xs, H a ≠ some (.tup xs)) : Chs P w C (upd H a o) B cs ds := by
  have tp : Tups H (upd H a o) := fun b ys e => by rw [upd_ne (fun z => nt ys (by rw [← z]; exact e))]; exact e
  refine ⟨⟨h.al.1, fun j x e hx he => ?_⟩, h.nd, h.ok, h.len⟩
  have q := h.al.2 j x e hx he
  obtain ⟨n1, n2, n3⟩ := na e (List.mem_of_getElem? he)
  obtain ⟨ta, h1, h2⟩ := q.tup
  obtain ⟨xs, g1, g2⟩ := q.ca
  exact ⟨⟨ta, h1, tp _ _ h2⟩, (let ⟨dx, h3⟩ := q.pi; ⟨dx, by rw [upd_ne n3]; exact h3⟩), (let ⟨kvs, k1, k2⟩ := q.kd; ⟨kvs, by rw [upd_ne n2]; exact k1, k2.mono tp⟩),
    xs, ⟨by rw [upd_ne n1]; exact g1.at_, fun z hz => ⟨(g1.ok z hz).1.mono tp, (g1.ok z hz).2.mono tp⟩⟩, g2⟩
/-- a dict of programs is none of the pipes' own things -/
theorem Chs.notAg (h : Chs P w C H B cs ds) {ag : Addr} {kvs : List (Key × V)} {l : Ag} (hag : H ag = some (.dK kvs)) (hb : Bl (agAt H) kvs l) : ∀ d ∈ ds, d.c ≠ ag ∧ d.kdA ≠ ag ∧ d.p ≠ ag := fun d hd => by
  obtain ⟨i, hi⟩ := List.mem_iff_getElem?.mp hd
  obtain ⟨x, _, q⟩ := h.al.at' hi
  refine ⟨fun z => ?_, fun z => ?_, fun z => ?_⟩
  · obtain ⟨xs, g1, _⟩ := q.ca
    rw [← z, g1.at_] at hag
    cases hag
  · obtain ⟨kv, k1, k2⟩ := q.kd
    rw [z, hag] at k1
    cases k1
    rw [(h.ok d hd).one.k] at k2
    cases kvs with
    | nil => exact k2
    | cons e r =>
      obtain ⟨⟨e1, _⟩, _⟩ := k2
      obtain ⟨q', _, e2, _⟩ := hb.at (i := 0) (x := e) rfl
      rw [e1] at e2
      cases e2
  · obtain ⟨dx, h3⟩ := q.pi
    rw [z, hag] at h3
    cases h3
theorem Chs.notFz (h : Chs P w C H B cs ds) {ag : Addr} {o : Obj} {u : HO} (hag : H ag = some (.frz o u)) : ∀ d ∈ ds, d.c ≠ ag ∧ d.kdA ≠ ag ∧ d.p ≠ ag := fun d hd => by
  obtain ⟨i, hi⟩ := List.mem_iff_getElem?.mp hd
  obtain ⟨x, _, q⟩ := h.al.at' hi
  refine ⟨fun z => ?_, fun z => ?_, fun z => ?_⟩
  · obtain ⟨xs, g1, _⟩ := q.ca
    rw [← z, g1.at_] at hag
    cases hag
  · obtain ⟨kv, k1, k2⟩ := q.kd
    rw [z, hag] at k1
    cases k1
  · obtain ⟨dx, h3⟩ := q.pi
    rw [z, hag] at h3
    cases h3
end
end K3
namespace K3
open PySem PySem.Spec PyProof.Rows L2
section
variable {P : Program} {w : World} {K : PySem.W.Frag} {mg : Str → Option Value} {base : Heap} {C CB CC CR CW : Addr}
def spShows (P : Program) (w : World) (C CC : Addr) : Sp := fun vs H Q _ => ∃ (p ag ca : Addr) (pl : Nat) (l : Ag) (b : Bool) (cs : List V) (ds : List Ch) (B : Nat) (d : Ch), vs = [.ref p, .ref ca] ∧ ChAt CC H p (pl : Int) ag ∧ DAg H ag l ∧ Asc l ∧ l.length ≤ 4 ∧ H ca = some (sqO b cs) ∧
  Chs P w C H B cs ds ∧ B ≤ 40000 ∧ ds[pl]? = some d ∧ (∀ q ∈ l, ∃ e, ds[q.1]? = some e ∧ PlOk e.ti q.2) ∧ ∀ H', CaBut ds H H' → Chs P w C H' (B + 6000) cs ds → Q (.bl (showB ds d l)) H'
abbrev nSh : List Str := ["self", "choices", "at"]
theorem scSh : FnScope nSh ["self", "choices"] (defScope sChShows) := ⟨rfl, rfl, rfl, by decide +kernel, rfl, by decide +kernel, by decide +kernel⟩
theorem ok_shows {f fK fP fS fR fJ tR tW : Addr} {fd fdK fdP fdS fdR fdJ tdR tdW : FuncData} (F : Fun K "shows" "Chosen.shows" sChShows f fd) (T : Txt K mg) (hbool : mg "bool" = none) (TH : TxtH K mg CC)
    (DK : DfX P w K mg base "check_choices" 3 ["choices"] (spChkC C CB) fK fdK) (DP : Dfn P w K mg base "check_program" 3 ["pipe", "program"] (exO fun ti _ => spChk C ti) fP fdP)
    (DS : Dfn P w K mg base "cheaper_places" 1 ["choices", "place"] spChp fS fdS) (DR : Dfn P w K mg base "is_right" 5 ["pipe", "program"] (exO fun ti _ => spIsR P w C ti) fR fdR)
    (DJ : Dfn P w K mg base "judge_pipe" 5 ["pipe"] (exO fun ti ki => spJudge P w C CW CR ti (insF ki)) fJ fdJ) (tDR : Tru P w K mg base CR true tR tdR) (tDW : Tru P w K mg base CW false tW tdW) :
    FnOk P w K mg base CX0 6 f fd ["self", "choices"] (spShows P w C CC) := by
  refine F.ok scSh (fun vs H Q E h => ?_) (fun cdv A outer s H vs Q E hr h => ?_)
  · obtain ⟨p, ag, ca, pl, l, b, cs, ds, B, d, rfl, _⟩ := h
    rfl
  · obtain ⟨p, ag, ca, pl, l, b, cs, ds, B, d, rfl, ⟨dx, hp⟩, hdag, asc, hl, hca, hch, hB, hd, hpl, k⟩ := h
    have nd := scSh.nd
    have hu := hu_of hr
    refine ⟨_, pss_cons (ps_expr (pclX DK (hr.mono (by decide)) (pa_cons (pv 1) pa_nil)))
      (pss_cons (ps_lock (ps_for PassesOwn.never rfl (pi_keys (pfd K (pv 0))) (pg_name (i := 2) nd rfl (.inl rfl))
        (pss_one (ps_if (pt_chain op_le op_lt pe_int (pv 2) (pe_callB call_len_seq (by rfl) T.len PySem.boot_len (pa_cons (pv 1) pa_nil)))
          (pss_one (ps_expr (pcl DP (hr.mono (by decide)) (pa_cons (pe_ix (ixT K) (pe_or2 (pe_ix (ixL K) (pv 1) (pv 2) (fun _ _ => rfl)) (pe_ix (ixT K) (pv 1) (pv 2) (fun _ _ => rfl))) pe_int (fun _ _ => rfl)) (pa_cons (pe_dget hu (pfd K (pv 0)) (pv 2) (fun _ _ => rfl)) pa_nil))))) pss_nil))))
      (pss_cons (ps_if (PW.pt (pw_or (pt_not (pt_chain op_le op_lt pe_int (pfd K (pv 0)) (pe_callB call_len_seq (by rfl) T.len PySem.boot_len (pa_cons (pv 1) pa_nil))))
          (pw_or1 (pt_cmpR (op_neD hr.units) (pe_callB (call_sortedDI rfl) (by rfl) T.sorted (by decide +kernel) (pa_cons (pfd K (pv 0)) pa_nil)) (pcl DS (hr.mono (by decide)) (pa_cons (pv 1) (pa_cons (pfd K (pv 0)) pa_nil))) (nomark _))))) (pss_one (ps_ret pe_bl)) pss_nil)
      (pss_cons (ps_if (pt_val (pe_callB (cr_any rfl) (by rfl) T.any (by decide +kernel) (pa_cons (pe_lock
          (pe_lc (own := [("at", 2)]) (g := gName 2) (by rfl) nd (pi_keys (pfd K (pv 0))) (blkOk_by (N := nSh) (sc := defScope sChShows) (by decide +kernel))
            (fun _ _ _ _ _ => pg_name (i := 2) nd rfl (.inl rfl)) (fun _ _ _ _ _ => pts_nil)
            (fun _ _ _ _ _ => pcl DR hr (pa_cons (pe_ix (ixT K) (pe_or2 (pe_ix (ixL K) (pv 1) (pv 2) (fun _ _ => rfl)) (pe_ix (ixT K) (pv 1) (pv 2) (fun _ _ => rfl))) pe_int (fun _ _ => rfl)) (pa_cons (pe_dget hu (pfd K (pv 0)) (pv 2) (fun _ _ => rfl)) pa_nil))))) pa_nil))) (pss_one (ps_ret pe_bl)) pss_nil)
      (pss_one (ps_ret (pe_callTy (call_boolO (hr.mono (by decide)) tDR tDW) (by rfl) hbool (by decide +kernel) (pa_cons (pcl DJ hr (pa_cons (pe_ix (ixT K) (pe_or2 (pe_ix (ixL K) (pv 1) (pfd K (pv 0)) (fun _ _ => rfl)) (pe_ix (ixT K) (pv 1) (pfd K (pv 0)) (fun _ _ => rfl))) pe_int (fun _ _ => rfl)) pa_nil)) pa_nil))))))), ?_⟩
    obtain ⟨kvs, hag, hb⟩ := id hdag
    have hlen : ds.length ≤ 4 := hch.len
    have hcl : cs.length = ds.length := hch.al.1
    have hpln : pl < ds.length := (List.getElem?_eq_some_iff.mp hd).1
    have knd := asc_nodup hb asc
    have npa : p ≠ ag := ne_of hp hag (by intro z; cases z)
    have nca : ca ≠ ag := ne_of hca hag (by cases b <;> (intro z; cases z))
    -- check_choices
    refine ⟨_, rfl, .ref ca, rfl, .inl ⟨ca, cs, b, rfl, hca, hch.gd, by omega, fun H1 s1 => ?_⟩⟩
    have hag1 := s1 _ _ hag
    have hp1 := s1 _ _ hp
    have hca1 := s1 _ _ hca
    have ch1 := hch.same s1 (Nat.le_refl B)
    have hb1 : Bl (agAt H1) kvs l := hb.mono fun _ _ => agAt.mono s1.prs
    -- the programs are such
    refine ⟨ag, _, hag1, True.intro, fun od => ?_⟩
    let Hf := upd H1 ag (.frz od (.dK kvs))
    have hf : Hf ag = some (.frz od (.dK kvs)) := upd_same
    have chf1 : Chs P w C Hf B cs ds := ch1.updA (ch1.notAg hag1 hb1) (fun xs e => by rw [hag1] at e; cases e)
    have hpf : Hf p = some (.ins CC dx (chf pl ag)) := by show upd H1 ag _ p = _; rw [upd_ne npa]; exact hp1
    have hcaf : Hf ca = some (sqO b cs) := by show upd H1 ag _ ca = _; rw [upd_ne nca]; exact hca1
    have prf : Prs H1 Hf := fun r is ⟨xs, g1, g2⟩ => ⟨xs, by show upd H1 ag _ r = _; rw [upd_ne (ne_of g1 hag1 (by intro z; cases z))]; exact g1, g2.mono fun _ _ z => InAt.mono (fun c ys e => by show upd H1 ag _ c = _; rw [upd_ne (fun z => by rw [z, hag1] at e; cases e)]; exact e) z⟩
    refine ⟨_, rfl, p, CC, dx, _, _, rfl, hpf, TH.cl, TH.na, chf_a _ _, ag, od, rfl, .inl ⟨_, hf, for_it (walk_keys (d := ag) (o := od) (kvs := kvs)) (fun j σ' H' => ∃ v2, σ' = [some (.ref p), some (.ref ca), v2] ∧ Same Hf H')
      ⟨none, rfl, Same.refl Hf⟩ (fun j σ' H' _ hh => by obtain ⟨_, _, s⟩ := hh; exact s _ _ hf) ?_ ?_⟩⟩
    · rintro j y σ' H' H'' hj ⟨v2, rfl, sH⟩ ⟨eH, ky, vy, hky, rfl⟩
      obtain rfl : H' = H'' := eH.symm
      obtain ⟨q, hq, e1, r, e2, hr0⟩ := hb1.at hky
      have e1' : ky = (Sum.inl (q.1 : Int) : Key) := e1
      have e2' : vy = .ref r := e2
      subst e1' e2'
      obtain ⟨e, he, pk⟩ := hpl q (List.mem_of_getElem? hq)
      have hql : q.1 < ds.length := (List.getElem?_eq_some_iff.mp he).1
      obtain ⟨x, hx, qx⟩ := (chf1.same sH (Nat.le_refl B)).al.at' he
      obtain ⟨ta, rfl, hta⟩ := qx.tup
      have eok := hch.ok e (List.mem_of_getElem? he)
      have hsq := sq_or (K := K) (sH _ _ hcaf)
      refine ⟨_, rfl, _, _, rfl, rfl, _, rfl, ?_⟩
      rw [decide_eq_true (show (0 : Int) ≤ (q.1 : Int) by omega)]
      refine iteT ⟨_, rfl, ca, cs, rfl, hsq, _, _, rfl, rfl, _, rfl, ?_⟩
      rw [decide_eq_true (show (q.1 : Int) < (cs.length : Int) by omega)]
      refine iteT ?_
      refine rd_ixC (n := q.1) rfl rfl hsq hx ⟨ta, _, 1, _, rfl, rfl, SqT.of hta, rfl, ?_⟩
      refine ⟨_, rfl, p, CC, dx, _, _, rfl, sH _ _ hpf, TH.cl, TH.na, chf_a _ _, _, rfl, ag, .ref r, rfl, ?_, ?_⟩
      · rw [← valV_at knd hky]
        exact .inl ⟨kvs, Sum.inl (q.1 : Int), .inr ⟨od, sH _ _ hf⟩, rfl, rfl⟩
      exact ⟨e.ti, e.ki, eok.one, eok.ko, e.p, e.kdA, e.c, r, q.2, rfl, qx.pi, qx.kd.kd, (prf _ _ hr0).same sH, by have := pk.len; omega, pk.ok, fun H2 s2 => ⟨_, rfl, sH.trans s2⟩⟩
    rintro σ' H' ⟨v2, rfl, sH⟩
    refine ⟨sH _ _ hf, ?_⟩
    have unl : ∀ {H0 G : Hp}, H0 ag = some (.dK kvs) → Same (upd H0 ag (.frz od (.dK kvs))) G → Same H0 (upd G ag (.dK kvs)) := fun {H0 G} h0 s b ob e => by
      by_cases hz : b = ag
      · subst hz
        rw [upd_same, ← e, h0]
      · rw [upd_ne hz]
        exact s _ _ (by rw [upd_ne hz]; exact e)
    have s12 : Same H1 (upd H' ag (.dK kvs)) := unl hag1 sH
    generalize upd H' ag (.dK kvs) = H2 at s12
    have s02 := s1.trans s12
    have hp2 := s02 _ _ hp
    have hca2 := s02 _ _ hca
    have hag2 := s02 _ _ hag
    have ch2 := hch.same s02 (Nat.le_refl B)
    have hsq2 := sq_or (K := K) hca2
    -- the place, the places
    refine ⟨_, rfl, p, CC, dx, _, _, rfl, hp2, TH.cl, TH.np, chf_p _ _, _, _, rfl, rfl, _, rfl, ?_⟩
    rw [decide_eq_true (show (0 : Int) ≤ (pl : Int) by omega)]
    refine iteT ⟨_, rfl, ca, cs, rfl, hsq2, _, _, rfl, rfl, _, rfl, ?_⟩
    rw [decide_eq_true (show (pl : Int) < (cs.length : Int) by omega)]
    refine iteF ?_
    refine ⟨_, rfl, p, CC, dx, _, _, rfl, hp2, TH.cl, TH.na, chf_a _ _, ag, kvs, l.map (fun q => (q.1 : Int)), rfl, .inl hag2, hb.keys, by rw [List.length_map]; omega, fun ys q0 perm srt nq => ?_⟩
    have eys := asc_sorted asc perm srt
    subst eys
    have s3 := same_upd (o := HO.lst ((l.map fun q => (q.1 : Int)).map V.int)) nq
    have s03 := s02.trans s3
    refine ⟨_, rfl, _, rfl, p, CC, dx, _, _, rfl, s03 _ _ hp, TH.cl, TH.np, chf_p _ _, ca, b, cs, ds.map (·.pr), pl, d.pr, rfl, s03 _ _ hca, (hch.same s03 (Nat.le_refl B)).prices, by rw [List.length_map]; omega, by rw [List.getElem?_map, hd]; rfl, fun r3 H3 nr s4 hr3 => ?_⟩
    have hq3 : H3 q0 = some (.lst (nI (l.map (·.1)))) := by
      have := s4 _ _ (show (upd H2 q0 (.lst ((l.map fun q => (q.1 : Int)).map V.int))) q0 = _ from upd_same)
      rw [this]
      unfold nI
      rw [List.map_map, List.map_map]
      rfl
    refine ⟨_, _, dp_nI hq3, dp_nI hr3, shaped_dN _, shaped_dN _, _, rfl, ?_⟩
    rw [eqv_dN]
    have s04 := s03.trans s4
    have ch4 := hch.same s04 (Nat.le_refl B)
    by_cases hk : l.map (·.1) = cheapL (ds.map (·.pr)) d.pr (ds.map (·.pr)).length
    case neg =>
      rw [decide_eq_false hk]
      refine iteT ?_
      have := k H3 s04.ca (hch.same s04 (by omega))
      unfold showB at this
      rw [decide_eq_false hk, Bool.false_and, Bool.false_and] at this
      exact this
    rw [decide_eq_true hk]
    refine iteF ?_
    have hag4 := s04 _ _ hag
    have hp4 := s04 _ _ hp
    have hca4 := s04 _ _ hca
    have hb4 : Bl (agAt H3) kvs l := hb.mono fun _ _ => agAt.mono s04.prs
    -- any of them right
    refine ⟨ag, _, hag4, True.intro, fun od2 => ?_⟩
    let Hg := upd H3 ag (.frz od2 (.dK kvs))
    have hg : Hg ag = some (.frz od2 (.dK kvs)) := upd_same
    have chg : Chs P w C Hg B cs ds := ch4.updA (ch4.notAg hag4 hb4) (fun xs e => by rw [hag4] at e; cases e)
    have hpg : Hg p = some (.ins CC dx (chf pl ag)) := by show upd H3 ag _ p = _; rw [upd_ne npa]; exact hp4
    have hcag : Hg ca = some (sqO b cs) := by show upd H3 ag _ ca = _; rw [upd_ne nca]; exact hca4
    have prg : Prs H3 Hg := fun r is ⟨xs, g1, g2⟩ => ⟨xs, by show upd H3 ag _ r = _; rw [upd_ne (ne_of g1 hag4 (by intro z; cases z))]; exact g1, g2.mono fun _ _ z => InAt.mono (fun c ys e => by show upd H3 ag _ c = _; rw [upd_ne (fun z => by rw [z, hag4] at e; cases e)]; exact e) z⟩
    have nfz : ∀ {G : Hp} {B' : Nat}, Chs P w C G B' cs ds → G ag = some (.frz od2 (.dK kvs)) → ∀ e ∈ ds, ag ≠ e.c := fun c g e he z => (c.notFz g e he).1 z.symm
    refine ⟨_, rfl, p, CC, dx, _, _, rfl, hpg, TH.cl, TH.na, chf_a _ _, ag, od2, rfl, .inl ⟨_, hg, fun D nD => lc_it (walk_keys (d := ag) (o := od2) (kvs := kvs)) (fun j G => CaBut ds Hg G ∧ Chs P w C G (B + 400 * j) cs ds ∧ G ag = some (.frz od2 (.dK kvs)) ∧ G D = some (.lst (((l.take j).map (rightAt ds)).map V.bl)))
      ⟨(same_upd nD).ca, chg.same (same_upd nD) (by omega), (same_upd nD) _ _ hg, upd_same⟩ (fun j G _ hh => hh.2.2.1) ?_ ?_⟩⟩
    · rintro j y G G' hj ⟨cb, ch, hgG, hD⟩ ⟨eH, ky, vy, hky, rfl⟩
      obtain rfl : G = G' := eH.symm
      obtain ⟨q, hq, e1, r, e2, hr0⟩ := hb4.at hky
      have e1' : ky = (Sum.inl (q.1 : Int) : Key) := e1
      have e2' : vy = .ref r := e2
      subst e1' e2'
      obtain ⟨e, he, pk⟩ := hpl q (List.mem_of_getElem? hq)
      have hql : q.1 < ds.length := (List.getElem?_eq_some_iff.mp he).1
      have hjl : j < l.length := (List.getElem?_eq_some_iff.mp hq).1
      obtain ⟨x, hx, qx⟩ := ch.al.at' he
      obtain ⟨ta, rfl, hta⟩ := qx.tup
      have eok := hch.ok e (List.mem_of_getElem? he)
      have hpG := cb _ _ (chg.ne hpg (fun φ z => by cases z)) hpg
      have hcaG := cb _ _ (chg.ne hcag (fun φ z => by cases b <;> cases z)) hcag
      have hsq := sq_or (K := K) hcaG
      have hrG := (chg.prs cb) _ _ (prg _ _ hr0)
      obtain ⟨hs, rss, es, hplay⟩ := pk.pl
      obtain ⟨xs, hc, hxs⟩ := qx.ca
      have eR : decide ((rss, es) = plainS e.ti q.2) = rightAt ds q := by
        unfold rightAt
        rw [he]
        show _ = rightB e.ti q.2
        unfold rightB
        rw [hplay]
      refine ⟨rfl, ?_⟩
      refine rd_ixC (n := q.1) rfl rfl hsq hx ⟨ta, _, 1, _, rfl, rfl, SqT.of hta, rfl, ?_⟩
      refine ⟨_, rfl, p, CC, dx, _, _, rfl, hpG, TH.cl, TH.na, chf_a _ _, _, rfl, ag, .ref r, rfl, ?_, ?_⟩
      · rw [← valV_at knd hky]
        exact .inl ⟨kvs, Sum.inl (q.1 : Int), .inr ⟨od2, hgG⟩, rfl, rfl⟩
      refine ⟨e.ti, e.ki, eok.one, eok.ko, e.p, e.kdA, e.c, r, q.2, xs, hs, rss, es, rfl, qx.pi, qx.kd.kd, hc, hrG, by have := pk.len; omega, pk.ok, by rw [eok.one.r]; decide, by rw [eok.one.r]; decide, by omega, hplay, fun G2 xs' bt hc' hl' => ?_⟩
      have hpk := pk.len
      obtain ⟨ch', cb'⟩ := ch.step (B' := B + 400 * (j + 1)) he bt hc' (by omega) (by omega)
      have hD' := cb' _ _ (ch.ne hD (fun φ z => by cases z)) hD
      have hg' := cb' _ _ (nfz ch hgG) hgG
      have nDc : ∀ e ∈ ds, D ≠ e.c := ch'.ne hD' (fun φ z => by cases z)
      have nDH : Hg D = none := nD
      refine ⟨_, hD', ?_, fun b0 o0 n0 e0 => ?_, ch'.updA (fun e' he' => ⟨(nDc e' he').symm, fun z => ?_, fun z => ?_⟩) (fun xs z => by rw [hD'] at z; cases z), ?_, ?_⟩
      · rw [List.length_map, List.length_map, List.length_take]
        exact szl (by omega)
      · rw [upd_ne (ne_of_none e0 nDH)]
        exact cb' _ _ n0 (cb _ _ n0 e0)
      · obtain ⟨i', hi'⟩ := List.mem_iff_getElem?.mp he'
        obtain ⟨_, _, qq⟩ := ch'.al.at' hi'
        obtain ⟨kv, k1, _⟩ := qq.kd
        rw [z, hD'] at k1
        cases k1
      · obtain ⟨i', hi'⟩ := List.mem_iff_getElem?.mp he'
        obtain ⟨_, _, qq⟩ := ch'.al.at' hi'
        obtain ⟨dx', k1⟩ := qq.pi
        rw [z, hD'] at k1
        cases k1
      · rw [upd_ne (fun z => by rw [z, hD'] at hg'; cases hg')]
        exact hg'
      · rw [upd_same, eR, take_succ_at hq, List.map_append, List.map_append]
        rfl
    · rintro G ⟨cb, ch, hgG, hD⟩
      refine ⟨hgG, D, (l.map (rightAt ds)), rfl, ?_, ?_⟩
      · rw [hb.1, List.take_length] at hD
        exact SqL.of (by rw [upd_ne (fun z => by rw [z, hgG] at hD; cases hD)]; exact hD)
      have hll : kvs.length ≤ 4 := by rw [hb.1]; exact hl
      have ch5 : Chs P w C (upd G ag (.dK kvs)) (B + 400 * kvs.length) cs ds := ch.updA (ch.notFz hgG) (fun xs z => by rw [hgG] at z; cases z)
      have cb5 : CaBut ds H3 (upd G ag (.dK kvs)) := fun b0 o0 n0 e0 => by
        by_cases hz : b0 = ag
        · subst hz
          rw [upd_same, ← e0, hag4]
        · rw [upd_ne hz]
          exact cb _ _ n0 (by show upd H3 ag _ b0 = _; rw [upd_ne hz]; exact e0)
      generalize upd G ag (.dK kvs) = H5 at ch5 cb5
      have hany : ((l.map (rightAt ds)).any id) = l.any (rightAt ds) := by rw [List.any_map]; rfl
      rw [hany]
      refine ⟨l.any (rightAt ds), rfl, ?_⟩
      cases hA : l.any (rightAt ds) with
      | true =>
        refine iteT ?_
        have := k H5 ((s04.ca (ds := ds)).trans cb5) (ch5.same (Same.refl H5) (by omega))
        unfold showB at this
        rw [hA, Bool.not_true, Bool.and_false, Bool.false_and] at this
        exact this
      | false =>
        refine iteF ?_
        have hca5 := cb5 _ _ (ch4.ne hca4 (fun φ z => by cases b <;> cases z)) hca4
        have hp5 := cb5 _ _ (ch4.ne hp4 (fun φ z => by cases z)) hp4
        have hsq := sq_or (K := K) hca5
        obtain ⟨x, hx, qx⟩ := ch5.al.at' hd
        obtain ⟨ta, rfl, hta⟩ := qx.tup
        obtain ⟨xs, hc, hxs⟩ := qx.ca
        have eok := hch.ok d (List.mem_of_getElem? hd)
        have pick : ∀ {Q' : VK}, Q' (.ref ta) H5 → (tOrE (tOp (rIxL K) (tVar 1) (tFld K (tVar 0) "place")) (tOp (rIxT K) (tVar 1) (tFld K (tVar 0) "place"))) [some (.ref p), some (.ref ca), v2] H5 Q' := fun {Q'} q => by
          rcases hsq with h | h
          · exact .inl ⟨_, rfl, _, rfl, p, CC, dx, _, _, rfl, hp5, TH.cl, TH.np, chf_p _ _, ca, cs, (pl : Int), _, rfl, rfl, h, atI_nat hx, q⟩
          · exact .inr ⟨_, rfl, _, rfl, p, CC, dx, _, _, rfl, hp5, TH.cl, TH.np, chf_p _ _, ca, cs, (pl : Int), _, rfl, rfl, h, atI_nat hx, q⟩
        refine pick ⟨ta, _, 1, _, rfl, rfl, SqT.of hta, rfl, ?_⟩
        refine ⟨d.ti, d.ki, eok.one, eok.ko, d.p, d.kdA, d.c, xs, d.r, rfl, qx.pi, qx.kd, hc, by rw [eok.one.r]; decide, by rw [eok.one.r]; decide, Nat.le_refl 2, by omega, eok.jg, fun q6 H6 xs' bt hc' hl' jat => ?_⟩
        obtain ⟨ch6, cb6⟩ := ch5.step (B' := B + 6000) hd bt hc' (by omega) (by omega)
        have := k H6 (((s04.ca (ds := ds)).trans cb5).trans cb6) ch6
        unfold showB at this
        rw [decide_eq_true hk, hA, Bool.not_false, Bool.and_true, Bool.true_and] at this
        refine ⟨.ref q6, d.good, rfl, ?_, this⟩
        unfold Ch.good
        cases hdr : d.r with
        | inl is =>
          rw [hdr] at jat
          obtain ⟨dx6, l6, h6, _⟩ := jat
          exact ⟨q6, dx6, _, rfl, .inr ⟨rfl, h6⟩⟩
        | inr fs =>
          rw [hdr] at jat
          obtain ⟨dx6, l6, zs6, h6, _⟩ := jat
          exact ⟨q6, dx6, _, rfl, .inl ⟨rfl, h6⟩⟩
end
end K3
namespace K3
open PySem PySem.Spec PyProof.Rows L2
/-! ### a code object is none of what pipes keep -/
def hpN (o : Obj) : Nat → Heap
  | 0 => {}
  | n + 1 => (hpN o n).push o
theorem hpN_size (o : Obj) : ∀ n, (hpN o n).objs.size = n
  | 0 => rfl
  | n + 1 => by
    show ((hpN o n).push o).objs.size = n + 1
    rw [Heap.size_push, hpN_size o n]
theorem hpN_get {o : Obj} (hf : o.isFreed = false) (n : Nat) : (hpN o (n + 1)).get? n = some o := by
  have h := Heap.get?_push_size (hpN o n) (o := o) hf
  rw [hpN_size] at h
  exact h
theorem code_ne_cache {P : Program} {w : World} {c : Addr} {q : Str} {xs : List Kp} : LamX.CodeO c q ≠ CacheO P w c xs := fun z => by
  unfold LamX.CodeO CacheO at z
  have e := HO.ext.inj z
  let oc : Obj := { cls := .none, data := .fields #[.none, .str q 0] }
  have h1 : (fun h : Heap => ∃ (oc : Obj) (vs : Array Value) (t : Tok), h.get? c = some oc ∧ oc.data = .fields vs ∧ vs[1]? = some (.str q t)) (hpN oc (c + 1)) := ⟨oc, _, 0, hpN_get rfl c, rfl, rfl⟩
  rw [e] at h1
  obtain ⟨_, o, es, ep, h2, _, h3, _⟩ := h1
  rw [hpN_get rfl c] at h2
  cases h2
  cases h3
/-! ### what stays: all but tables and what pipes keep -/
def ExtC (ds : List Ch) (H H' : Hp) : Prop := ∀ b o, (∀ d ∈ ds, b ≠ d.c) → (∀ ps, o ≠ .tbl ps) → H b = some o → H' b = some o
theorem ExtC.trans {ds : List Ch} {H H1 H2 : Hp} (a : ExtC ds H H1) (b : ExtC ds H1 H2) : ExtC ds H H2 := fun q o n m e => b q o n m (a q o n m e)
theorem CaBut.extC {ds : List Ch} {H H' : Hp} (a : CaBut ds H H') : ExtC ds H H' := fun q o n _ e => a q o n e
theorem extN_C {ds : List Ch} {H H' : Hp} (a : LamX.ExtN H H') : ExtC ds H H' := fun q o _ m e => a q o e m
theorem extN_tups {H H' : Hp} (a : LamX.ExtN H H') : Tups H H' := fun b xs e => a b _ e (fun ps z => by cases z)
theorem extN_prs {H H' : Hp} (a : LamX.ExtN H H') : Prs H H' := fun r is ⟨xs, h1, h2⟩ => ⟨xs, a _ _ h1 (fun ps z => by cases z), h2.mono fun _ _ z => InAt.mono (extN_tups a) z⟩
section
variable {P : Program} {w : World} {C : Addr} {H H' : Hp} {B B' : Nat} {cs : List V} {ds : List Ch} {T : List (Addr × Str)}
theorem Chs.extN (h : Chs P w C H B cs ds) (s : LamX.ExtN H H') : Chs P w C H' B cs ds := by
  have tp := extN_tups s
  refine ⟨h.al.mono fun x d q => ⟨let ⟨ta, h1, h2⟩ := q.tup; ⟨ta, h1, tp _ _ h2⟩, let ⟨dx, h1⟩ := q.pi; ⟨dx, s _ _ h1 (fun ps z => by cases z)⟩, let ⟨kvs, k1, k2⟩ := q.kd; ⟨kvs, s _ _ k1 (fun ps z => by cases z), k2.mono tp⟩, ?_⟩, h.nd, h.ok, h.len⟩
  obtain ⟨xs, g1, g2⟩ := q.ca
  exact ⟨xs, ⟨s _ _ g1.at_ (fun ps z => by unfold CacheO at z; cases z), fun z hz => ⟨(g1.ok z hz).1.mono tp, (g1.ok z hz).2.mono tp⟩⟩, g2⟩
theorem Chs.tabs (h : Chs P w C H B cs ds) (b : CaBut ds H H') (t : LamX.Tabs T H) : LamX.Tabs T H' := fun p hp => by
  obtain ⟨ps, h1, h2, h3⟩ := t p hp
  refine ⟨ps, b _ _ (h.ne h1 (fun φ z => by cases z)) h1, h2, fun pos cv hc => ?_⟩
  obtain ⟨c, e1, e2⟩ := h3 pos cv hc
  refine ⟨c, e1, b _ _ (fun d hd z => ?_) e2⟩
  obtain ⟨xs, hx, _⟩ := h.ext hd
  subst z
  rw [hx.at_] at e2
  exact code_ne_cache (Option.some.inj e2).symm
theorem Chs.extC_prs (h : Chs P w C H B cs ds) (b : ExtC ds H H') : Prs H H' := fun r is ⟨xs, h1, h2⟩ =>
  ⟨xs, b _ _ (h.ne h1 (fun φ z => by cases z)) (fun ps z => by cases z) h1, h2.mono fun _ _ z => InAt.mono (fun a ys e => b _ _ (h.ne e (fun φ z => by cases z)) (fun ps z => by cases z) e) z⟩
end
/-! ### the places by prices -/
theorem places_qs {ks : List Int} {ps : List (Int × Int)} (h : Places ks ps) : ∃ qs : List Nat, qs.Perm (List.range ks.length) ∧ (ps.map fun p => V.int p.2) = nI qs ∧ qs.Pairwise fun i j => ks[i]?.getD 0 ≤ ks[j]?.getD 0 := by
  obtain ⟨hp, hs⟩ := h
  have ez : ks.zip ((List.range ks.length).map fun i => ((i : Nat) : Int)) = (List.range ks.length).map fun (i : Nat) => (ks[i]?.getD 0, (i : Int)) := by
    refine List.ext_getElem? fun i => ?_
    rw [List.getElem?_map]
    by_cases hi : i < ks.length
    · have hz : (ks.zip ((List.range ks.length).map fun i => ((i : Nat) : Int)))[i]? = some (ks[i], (i : Int)) := (List.getElem?_zip_eq_some (z := (ks[i], (i : Int)))).mpr ⟨List.getElem?_eq_getElem hi, by rw [List.getElem?_map, List.getElem?_range hi]; rfl⟩
      rw [hz, List.getElem?_range hi, Option.map_some, List.getElem?_eq_getElem hi]
      rfl
    · rw [List.getElem?_eq_none (by rw [List.length_zip, List.length_map, List.length_range]; omega), List.getElem?_eq_none (by rw [List.length_range]; omega)]
      rfl
  rw [ez] at hp
  have hmem : ∀ p ∈ ps, ∃ i : Nat, p = (ks[i]?.getD 0, (i : Int)) := fun p hp' => by
    obtain ⟨i, _, e⟩ := List.mem_map.mp (hp.mem_iff.mp hp')
    exact ⟨i, e.symm⟩
  have eq : ps = (ps.map fun p => p.2.toNat).map fun (i : Nat) => (ks[i]?.getD 0, (i : Int)) := by
    rw [List.map_map]
    conv => lhs; rw [← List.map_id ps]
    refine List.map_congr_left fun p hp' => ?_
    obtain ⟨i, rfl⟩ := hmem p hp'
    simp
  refine ⟨ps.map fun p => p.2.toNat, ?_, ?_, ?_⟩
  · have := hp.map fun p => p.2.toNat
    rw [List.map_map] at this
    refine this.trans (List.Perm.of_eq ?_)
    conv => rhs; rw [← List.map_id (List.range ks.length)]
    exact List.map_congr_left fun i _ => by simp
  · unfold nI
    rw [List.map_map]
    refine List.map_congr_left fun p hp' => ?_
    obtain ⟨i, rfl⟩ := hmem p hp'
    simp
  · rw [eq] at hs
    rw [List.pairwise_map] at hs
    exact hs
/-- what is returned for each cheaper one -/
def progL (ds : List Ch) (i : Nat) : List Ins := match ds[i]? with
  | some e => (match e.r with
    | .inl is => is
    | .inr _ => [])
  | none => []
def agL (ds : List Ch) (l : List Nat) : Ag := l.map fun i => (i, progL ds i)
def cheapD (ds : List Ch) (d : Ch) : List Nat := cheapL (ds.map (·.pr)) d.pr (ds.map (·.pr)).length
theorem asc_cheap (ds : List Ch) (d : Ch) : Asc (agL ds (cheapD ds d)) := by
  unfold Asc agL cheapD cheapL
  rw [List.map_map]
  have : ((fun q : Nat × List Ins => q.1) ∘ fun i => (i, progL ds i)) = id := rfl
  rw [this, List.map_id]
  exact List.Pairwise.filter _ List.pairwise_lt_range
theorem cheap_mem {ds : List Ch} {d : Ch} {i : Nat} (h : i ∈ cheapD ds d) : ∃ e, ds[i]? = some e ∧ e.pr < d.pr := by
  unfold cheapD cheapL at h
  obtain ⟨h1, h2⟩ := List.mem_filter.mp h
  rw [List.mem_range, List.length_map] at h1
  refine ⟨ds[i], List.getElem?_eq_getElem h1, ?_⟩
  have := of_decide_eq_true h2
  rw [List.getElem?_map, List.getElem?_eq_getElem h1] at this
  exact this
/-- a place that is none of those told -/
theorem bl_new {H : Hp} {kv : List (Key × V)} {l : Ag} {n : Nat} (hb : Bl (agAt H) kv l) (hn : ∀ q ∈ l, q.1 ≠ n) : valV kv (Sum.inl (n : Int) : Key) = none := by
  cases hv : valV kv (Sum.inl (n : Int) : Key) with
  | none => rfl
  | some vv =>
    exfalso
    unfold valV at hv
    obtain ⟨pp, hpp, _⟩ := Option.map_eq_some_iff.mp hv
    have hk' : pp.1 = (Sum.inl (n : Int) : Key) := by
      have := List.find?_some (p := fun x : Key × V => decide (x.1 = (Sum.inl (n : Int) : Key))) hpp
      exact of_decide_eq_true this
    obtain ⟨i, hi⟩ := List.mem_iff_getElem?.mp (List.mem_of_find?_eq_some hpp)
    obtain ⟨q', hq', hz, _⟩ := hb.at hi
    rw [hz] at hk'
    have := Sum.inl.inj hk'
    exact hn q' (List.mem_of_getElem? hq') (by omega)
theorem bl_nodup {H : Hp} {kv : List (Key × V)} {l : Ag} (hb : Bl (agAt H) kv l) (hn : (l.map (·.1)).Nodup) : (kv.map (·.1)).Nodup := by
  rw [hb.keys, List.map_map]
  rw [List.nodup_iff_pairwise_ne] at hn ⊢
  rw [List.pairwise_map] at hn ⊢
  exact hn.imp fun {a b} h e => h (by have h2 : (a.1 : Int) = (b.1 : Int) := Sum.inl.inj e; omega)
theorem agL_fst (ds : List Ch) (l : List Nat) : (agL ds l).map (·.1) = l := by
  unfold agL
  rw [List.map_map]
  have : ((fun q : Nat × List Ins => q.1) ∘ fun i => (i, progL ds i)) = id := rfl
  rw [this, List.map_id]
theorem agL_take (ds : List Ch) (l : List Nat) (n : Nat) : (agL ds l).take n = agL ds (l.take n) := by
  unfold agL
  rw [List.map_take]
theorem nI_at {qs : List Nat} {j : Nat} {y : V} (h : (nI qs)[j]? = some y) : ∃ i, qs[j]? = some i ∧ y = .int (i : Int) := by
  unfold nI at h
  rw [List.getElem?_map] at h
  obtain ⟨i, hi, e⟩ := Option.map_eq_some_iff.mp h
  exact ⟨i, hi, e.symm⟩
theorem tabs_upd {T : List (Addr × Str)} {H : Hp} {a : Addr} {o : HO} {kvs : List (Key × V)} (t : LamX.Tabs T H) (ha : H a = some (.dK kvs)) : LamX.Tabs T (upd H a o) := fun p hp => by
  obtain ⟨ps, h1, h2, h3⟩ := t p hp
  refine ⟨ps, by rw [upd_ne (ne_of h1 ha (by intro z; cases z))]; exact h1, h2, fun pos cv hc => ?_⟩
  obtain ⟨c, e1, e2⟩ := h3 pos cv hc
  exact ⟨c, e1, by rw [upd_ne (ne_of e2 ha (by intro z; unfold LamX.CodeO at z; cases z))]; exact e2⟩
theorem agL_snoc (ds : List Ch) (l : List Nat) (n : Nat) : agL ds (l ++ [n]) = agL ds l ++ [(n, progL ds n)] := by
  unfold agL
  rw [List.map_append]
  rfl
theorem agL_mem {ds : List Ch} {l : List Nat} {q : Nat × List Ins} (h : q ∈ agL ds l) : q.1 ∈ l := by
  unfold agL at h
  obtain ⟨n, hn, rfl⟩ := List.mem_map.mp h
  exact hn
theorem prs_dK {H : Hp} {a : Addr} {kvs kvs' : List (Key × V)} (ha : H a = some (.dK kvs)) : Prs H (upd H a (.dK kvs')) := fun r is ⟨xs, g1, g2⟩ =>
  ⟨xs, by rw [upd_ne (fun z => by rw [z, ha] at g1; cases g1)]; exact g1, g2.mono fun _ _ z => InAt.mono (fun b ys e => by rw [upd_ne (fun z => by rw [z, ha] at e; cases e)]; exact e) z⟩
/-- one more place -/
theorem dag_put {H : Hp} {a r : Addr} {kvs : List (Key × V)} {l : Ag} {n : Nat} {is : List Ins} (ha : H a = some (.dK kvs)) (hb : Bl (agAt H) kvs l) (hn : ∀ q ∈ l, q.1 ≠ n) (hp : ProgAt H r is) : DAg (upd H a (.dK (putK kvs (Sum.inl (n : Int) : Key) (.ref r)))) a (l ++ [(n, is)]) := by
  refine ⟨_, upd_same, ?_⟩
  have h9 := Bl.snoc (x := ((Sum.inl (n : Int) : Key), V.ref r)) (d := (n, is)) (hb.mono fun _ _ z => z.mono (prs_dK (kvs' := putK kvs (Sum.inl (n : Int) : Key) (.ref r)) ha)) ⟨rfl, r, rfl, prs_dK ha _ _ hp⟩
  rw [← putK_new _ (bl_new hb hn)] at h9
  exact h9
end K3
namespace K3
open PySem PySem.Spec PyProof.Rows L2
def tabT (PT : Addr) : List (Addr × Str) := [(PT, (("cheapest_right" : Str) ++ ".<locals>.") ++ "<lambda>")]
section
variable {P : Program} {w : World} {K : PySem.W.Frag} {mg : Str → Option Value} {base : Heap} {C CB CC CR CW c PT : Addr}
/-- what cheapest_right does with choices -/
def spCR (P : Program) (w : World) (C CB CC PT : Addr) : Sp := fun vs H Q E => ∃ v, vs = [v] ∧
  ((∃ ca cs ds B, v = .ref ca ∧ H ca = some (.lst cs) ∧ Chs P w C H B cs ds ∧ B ≤ 40000 ∧ LamX.Tabs (tabT PT) H ∧
    ∀ H', ExtC ds H H' → Chs P w C H' (B + 2400) cs ds → LamX.Tabs (tabT PT) H' →
      ((∀ d ∈ ds, d.good = false) → Q .non H') ∧ (∀ (pl : Nat) d q ag, ds[pl]? = some d → d.good = true → (∀ e ∈ ds, e.pr < d.pr → e.good = false) → ChAt CC H' q (pl : Int) ag → DAg H' ag (agL ds (cheapD ds d)) → Q (.ref q) H')) ∨
  ((v = .non ∨ ∃ ca x, v = .ref ca ∧ H ca = some (.lst [x]) ∧ BdC C H x) ∧ ∀ d H', Same H H' → H' d = some (.xd bpD) → E (.ref CB) (some d) H'))
abbrev nCR : List Str := ["choices", "programs", "at", "found", "place"]
theorem scCR : FnScope nCR ["choices"] (defScope sCheapest) := ⟨rfl, rfl, rfl, by decide +kernel, rfl, by decide +kernel, by decide +kernel⟩
theorem ok_cheapest {oc kV doc pm ct : Value} {od an : Option Addr} {osl : Array (Option Value)} {f fK fS fJ fH tR tW : Addr} {fdK fdS fdJ fdH tdR tdW : FuncData}
    (lk : K.lookup f = some ⟨oc, od, .func (PySem.W.fnOf "cheapest_right" "cheapest_right" (defArgs sCheapest) (defBody sCheapest) (defScope sCheapest) .none kV doc pm an (.ref c) ct), osl⟩) (hcd : PySem.W.codeIn K (.ref c) "cheapest_right" = true)
    (T : Txt K mg) (TB : LamX.TabB base mg c PT) (TW : TxtO K mg CW "Wrong" "program") (TH : TxtH K mg CC)
    (DK : DfX P w K mg base "check_choices" 3 ["choices"] (spChkC C CB) fK fdK) (DS : Dfn P w K mg base "cheaper_places" 1 ["choices", "place"] spChp fS fdS)
    (DJ : Dfn P w K mg base "judge_pipe" 5 ["pipe"] (exO fun ti ki => spJudge P w C CW CR ti (insF ki)) fJ fdJ) (tDR : Tru P w K mg base CR true tR tdR) (tDW : Tru P w K mg base CW false tW tdW)
    (MH : Mk K CC fH) (FH : FnOk P w K mg base CX0 2 fH fdH ["self", "place", "against"] (spHInit CC)) (bH : Binds K fdH ["self", "place", "against"] []) :
    FnOk P w K mg base (L2.CX P w) 6 f (PySem.W.fnOf "cheapest_right" "cheapest_right" (defArgs sCheapest) (defBody sCheapest) (defScope sCheapest) .none kV doc pm an (.ref c) ct) ["choices"] (spCR P w C CB CC PT) := by
  refine fn_of lk hcd scCR (fun vs H Q E h => ?_) fun A outer s H vs Q E hr h => ?_
  · obtain ⟨v, rfl, _⟩ := h
    rfl
  · obtain ⟨v, rfl, h⟩ := h
    have nd := scCR.nd
    have hu := hu_of hr
    have hr3 : Room 3 _ := hr.mono (by decide)
    refine ⟨_, pss_cons (ps_expr (pe_callS DK.ok (hr.mono (by decide)) rfl DK.mgf DK.kp DK.b (fun σ => passAt (takes_of rfl rfl rfl rfl) σ) (pa_cons (pv 0) pa_nil)))
      (PSs.nox (pss_cons (ps_set (i := 1) nd rfl (.inr rfl) pe_dnewK)
        (pss_cons (ps_for PassesOwn.never rfl (pi_list (pe_sortLam (x := "choices") (y := "place") (T := tabT PT) (jc := 0) (by rfl) T.sorted TB (by rfl) List.mem_cons_self (fun p hp _ => by rw [List.mem_singleton.mp hp]; rfl) (hr.mono (by decide) : Room (0 + 2) _) (by rfl) (NdefX.nscope_by (by decide +kernel)) rfl (by rfl) (fun _ _ _ _ _ _ => by rfl)
            (pe_callTy cr_range1 (by rfl) T.range (by decide +kernel) (pa_cons (pe_callB call_len_seq (by rfl) T.len PySem.boot_len (pa_cons (pv 0) pa_nil)) pa_nil)) (by decide +kernel) (by decide +kernel) (by decide +kernel))) (pg_name (i := 2) nd rfl (.inl rfl))
          (pss_cons (ps_set (i := 3) nd rfl (.inl rfl) (pcl DJ hr (pa_cons (pe_ix (ixT K) (pe_ix (ixL K) (pv 0) (pv 2) (fun _ _ => rfl)) pe_int (fun _ _ => rfl)) pa_nil)))
          (pss_cons (ps_if (pt_tru (pv 3) (hr.mono (by decide)) tDR tDW) (pss_one (ps_ret (pe_make MH FH hr3 (by rfl) TH.mgC bH .nil pass0 (pa_cons (pv 2) (pa_cons
              (pe_dc (own := [("place", 4)]) (g := gName 4) (by rfl) nd (pi_list (pcl DS (hr.mono (by decide)) (pa_cons (pv 0) (pa_cons (pv 2) pa_nil)))) (blkOk_by (N := nCR) (sc := defScope sCheapest) (by decide +kernel))
                (fun _ _ _ _ _ => pg_name (i := 4) nd rfl (.inl rfl)) (fun _ _ _ _ _ => pts_nil) (fun _ _ _ _ _ => pv 4) (fun _ _ _ _ _ => pe_dget hu (pv 1) (pv 4) (fun _ _ => rfl))) pa_nil))))) pss_nil)
          (pss_one (ps_dput hu (pv 1) (pv 2) (pe_fld (pv 3) rfl) rfl)))))
        (pss_one (ps_ret pe_non))))), ?_⟩
    rcases h with ⟨ca, cs, ds, B, rfl, hca, hch, hB, hT, k⟩ | ⟨hbad, k⟩
    case inr => exact ⟨_, rfl, v, rfl, .inr ⟨hbad, fun d H' s h => k d H' s h⟩⟩
    have hlen : ds.length ≤ 4 := hch.len
    have hcl : cs.length = ds.length := hch.al.1
    refine ⟨_, rfl, .ref ca, rfl, .inl ⟨ca, cs, true, rfl, hca, hch.gd, by omega, fun H1 s1 => ?_⟩⟩
    intro pr npr
    have s2 := s1.trans (same_upd (o := HO.dK []) npr)
    have hpr2 : (upd H1 pr (.dK [])) pr = some (.dK []) := upd_same
    have nprH : H pr = none := s1.free npr
    generalize upd H1 pr (.dK []) = H2 at s2 hpr2
    refine ⟨_, rfl, ca, cs, rfl, .inl (SqL.of (s2 _ _ hca)), (cs.length : Int), rfl, fun r nr => ?_⟩
    have s23 := same_upd (o := HO.rng 0 (cs.length : Int)) nr
    have s3 := s2.trans s23
    have hr3' : (upd H2 r (.rng 0 (cs.length : Int))) r = some (.rng 0 (cs.length : Int)) := upd_same
    have hpr3 := s23 _ _ hpr2
    generalize upd H2 r (.rng 0 (cs.length : Int)) = H3 at s23 s3 hr3' hpr3
    have ch3 := hch.same s3 (Nat.le_refl B)
    have hca3 := s3 _ _ hca
    have hkl : (ds.map (·.pr)).length = ds.length := List.length_map _
    refine ⟨hT.ext s3, r, ca, cs, ds.map (·.pr), rfl, by rw [hkl, ← hcl]; exact hr3', by omega, rfl, hca3, by omega, fun i x kp hx hk => ?_, fun H4 D ps eN T4 nD plc hpl => ?_⟩
    · obtain ⟨ta, u, h1, h2⟩ := ch3.prices.2 i x kp hx hk
      exact ⟨ta, u, h1, h2⟩
    obtain ⟨qs, qperm, eqs, qsrt⟩ := places_qs plc
    rw [eqs]
    rw [hkl] at qperm
    have qnd : qs.Nodup := qperm.nodup_iff.mpr List.nodup_range
    have qlt : ∀ i ∈ qs, i < ds.length := fun i hi => List.mem_range.mp (qperm.mem_iff.mp hi)
    have ql4 : qs.length = ds.length := by rw [qperm.length_eq, List.length_range]
    have s5 := same_upd (o := HO.lst (nI qs)) nD
    have hD5 : (upd H4 D (.lst (nI qs))) D = some (.lst (nI qs)) := upd_same
    have ch4 := ch3.extN eN
    have hca5 := s5 _ _ (eN _ _ hca3 (fun ps z => by cases z))
    have hpr5 := s5 _ _ (eN _ _ hpr3 (fun ps z => by cases z))
    have ch5 := ch4.same s5 (Nat.le_refl B)
    have T5 := T4.ext s5
    have ec5 : ExtC ds H (upd H4 D (.lst (nI qs))) := (s3.ca (ds := ds)).extC.trans ((extN_C eN).trans (s5.ca (ds := ds)).extC)
    generalize upd H4 D (.lst (nI qs)) = H5 at s5 hD5 hca5 hpr5 ch5 T5 ec5
    refine ⟨D, rfl, ⟨_, SqL.of hD5⟩, for_it (walk_list (K := K) (a := D) (xs := nI qs)) (fun j σ' G => ∃ v2 v3, σ' = [some (.ref ca), some (.ref pr), v2, v3, none] ∧ ExtC ds H G ∧ G ca = some (.lst cs) ∧ G D = some (.lst (nI qs)) ∧ Chs P w C G (B + 600 * j) cs ds ∧ LamX.Tabs (tabT PT) G ∧
        DAg G pr (agL ds (qs.take j)) ∧ ∀ i ∈ qs.take j, ∃ e, ds[i]? = some e ∧ e.good = false)
      ⟨none, none, rfl, ec5, hca5, hD5, ch5.same (Same.refl H5) (by omega), T5, ⟨[], hpr5, Bl.nil⟩, fun i hi => by cases hi⟩ (fun j σ' G _ hh => by obtain ⟨_, _, _, _, _, h, _⟩ := hh; exact SqL.of h) ?_ ?_⟩
    · rintro j y σ' G G' hj ⟨v2, v3, rfl, ec, hcaj, hDj, chj, Tj, ⟨kvs, hprj, hbj⟩, hgj⟩ ⟨eH, hy⟩
      obtain rfl : G = G' := eH.symm
      obtain ⟨i, hi, rfl⟩ := nI_at hy
      have hjl : j < qs.length := (List.getElem?_eq_some_iff.mp hi).1
      have hil := qlt i (List.mem_of_getElem? hi)
      have he : ds[i]? = some ds[i] := List.getElem?_eq_getElem hil
      generalize ds[i] = e at he
      obtain ⟨x, hx, qx⟩ := chj.al.at' he
      obtain ⟨ta, rfl, hta⟩ := qx.tup
      obtain ⟨xs, hc, hxs⟩ := qx.ca
      have eok := hch.ok e (List.mem_of_getElem? he)
      refine ⟨_, rfl, _, rfl, ca, cs, (i : Int), _, rfl, rfl, SqL.of hcaj, atI_nat hx, ta, _, 1, _, rfl, rfl, SqT.of hta, rfl, ?_⟩
      refine ⟨e.ti, e.ki, eok.one, eok.ko, e.p, e.kdA, e.c, xs, e.r, rfl, qx.pi, qx.kd, hc, by rw [eok.one.r]; decide, by rw [eok.one.r]; decide, Nat.le_refl 2, by omega, eok.jg, fun q6 H6 xs' bt hc' hl' jat => ?_⟩
      obtain ⟨ch6, cb6⟩ := chj.step (B' := B + 600 * (j + 1)) he bt hc' (by omega) (by omega)
      have T6 := chj.tabs cb6 Tj
      have ec6 := ec.trans cb6.extC
      have hca6 := cb6 _ _ (chj.ne hcaj (fun φ z => by cases z)) hcaj
      have hD6 := cb6 _ _ (chj.ne hDj (fun φ z => by cases z)) hDj
      have hpr6 := cb6 _ _ (chj.ne hprj (fun φ z => by cases z)) hprj
      have hb6 : Bl (agAt H6) kvs (agL ds (qs.take j)) := hbj.mono fun _ _ z => z.mono (chj.prs cb6)
      have tnd : (qs.take j).Nodup := qnd.sublist (List.take_sublist j qs)
      have nij : i ∉ qs.take j := fun hm => by
        obtain ⟨m, hm⟩ := List.mem_iff_getElem?.mp hm
        have hmj : m < j := by
          have := (List.getElem?_eq_some_iff.mp hm).1
          rw [List.length_take] at this
          omega
        rw [List.getElem?_take_of_lt hmj] at hm
        have h1 := List.getElem?_eq_some_iff.mp hm
        have h2 := List.getElem?_eq_some_iff.mp hi
        exact List.pairwise_iff_getElem.mp (List.nodup_iff_pairwise_ne.mp qnd) m j h1.1 h2.1 hmj (by rw [h1.2, h2.2])
      refine ⟨_, rfl, e.good, ?_, ?_⟩
      · unfold Ch.good
        cases hdr : e.r with
        | inl is =>
          rw [hdr] at jat
          obtain ⟨dx6, l6, h6, _⟩ := jat
          exact ⟨q6, dx6, _, rfl, .inr ⟨rfl, h6⟩⟩
        | inr fs =>
          rw [hdr] at jat
          obtain ⟨dx6, l6, zs6, h6, _⟩ := jat
          exact ⟨q6, dx6, _, rfl, .inl ⟨rfl, h6⟩⟩
      cases hgd : e.good with
      | true =>
        refine iteT ?_
        have hin : ∀ m ∈ cheapD ds e, m ∈ qs.take j := fun m hm => by
          obtain ⟨e', h1, h2⟩ := cheap_mem hm
          obtain ⟨n, hn⟩ := List.mem_iff_getElem?.mp (qperm.mem_iff.mpr (List.mem_range.mpr (List.getElem?_eq_some_iff.mp h1).1))
          by_cases hnj : n < j
          · exact List.mem_of_getElem? (i := n) (by rw [List.getElem?_take_of_lt hnj]; exact hn)
          · exfalso
            rcases Nat.lt_or_eq_of_le (Nat.le_of_not_lt hnj) with hlt | hlt
            · have g1 := List.getElem?_eq_some_iff.mp hi
              have g2 := List.getElem?_eq_some_iff.mp hn
              have := List.pairwise_iff_getElem.mp qsrt j n g1.1 g2.1 hlt
              rw [g1.2, g2.2, List.getElem?_map, List.getElem?_map, he, h1] at this
              simp only [Option.map_some, Option.getD_some] at this
              omega
            · rw [← hlt, hi] at hn
              cases hn
              rw [he] at h1
              cases h1
              omega
        have knd6 := bl_nodup hb6 (by rw [agL_fst]; exact tnd)
        have cl4 : (cheapD ds e).length ≤ 4 := by
          have := cheapL_len (ds.map (·.pr)) e.pr (ds.map (·.pr)).length
          unfold cheapD
          omega
        refine ⟨_, rfl, _, rfl, _, rfl, ca, true, cs, ds.map (·.pr), i, e.pr, rfl, hca6, ch6.prices, by omega, by rw [List.getElem?_map, he]; rfl, fun r7 H7 nr7 s7 hr7 => ?_⟩
        refine ⟨r7, rfl, ⟨_, SqL.of hr7⟩, fun D8 nD8 => dc_it (walk_list (K := K) (a := r7) (xs := nI (cheapD ds e))) (fun m G => Same H7 G ∧ G r7 = some (.lst (nI (cheapD ds e))) ∧ DAg G D8 (agL ds ((cheapD ds e).take m)) ∧ D8 ≠ r7)
          ⟨same_upd nD8, (same_upd nD8) _ _ hr7, ⟨[], upd_same, Bl.nil⟩, fun z => by rw [z, hr7] at nD8; cases nD8⟩ (fun m G _ hh => SqL.of hh.2.1) ?_ ?_⟩
        · rintro m y G G' hm ⟨s8, hr8, ⟨kv8, hD8, hb8⟩, nDr⟩ ⟨eG, hy⟩
          obtain rfl : G = G' := eG.symm
          obtain ⟨n, hn, rfl⟩ := nI_at hy
          obtain ⟨t, ht⟩ := List.mem_iff_getElem?.mp (hin n (List.mem_of_getElem? hn))
          have ht' : (agL ds (qs.take j))[t]? = some (n, progL ds n) := by
            unfold agL
            rw [List.getElem?_map, ht]
            rfl
          obtain ⟨⟨k0, v0⟩, hk0, e1, r0, e2, hr0⟩ := hb6.at' ht'
          have e1' : k0 = (Sum.inl (n : Int) : Key) := e1
          have e2' : v0 = .ref r0 := e2
          subst e1' e2'
          have s78 := s7.trans s8
          refine ⟨rfl, ?_⟩
          refine ⟨_, rfl, _, rfl, _, rfl, pr, .ref r0, rfl, ?_, ?_⟩
          · rw [← valV_at knd6 hk0]
            exact .inl ⟨kvs, Sum.inl (n : Int), .inl (s78 _ _ hpr6), rfl, rfl⟩
          have hml : m < (cheapD ds e).length := (List.getElem?_eq_some_iff.mp hn).1
          refine ⟨kv8, Sum.inl (n : Int), rfl, hD8, ?_, s8.mut nD8, ?_, ?_, nDr⟩
          · rw [hb8.1]
            unfold agL
            rw [List.length_map, List.length_take]
            exact szl (by omega)
          · rw [upd_ne nDr.symm]
            exact hr8
          · rw [take_succ_at hn, agL_snoc]
            refine dag_put hD8 hb8 (fun q hq => ?_) (hr0.same s78)
            have hq1 := agL_mem hq
            intro z
            subst z
            obtain ⟨u, hu⟩ := List.mem_iff_getElem?.mp hq1
            have hum : u < m := by
              have := (List.getElem?_eq_some_iff.mp hu).1
              rw [List.length_take] at this
              omega
            rw [List.getElem?_take_of_lt hum] at hu
            have asc := asc_cheap ds e
            unfold Asc at asc
            rw [agL_fst] at asc
            have g1 := List.getElem?_eq_some_iff.mp hu
            have g2 := List.getElem?_eq_some_iff.mp hn
            have := List.pairwise_iff_getElem.mp asc u m g1.1 g2.1 hum
            rw [g1.2, g2.2] at this
            exact Nat.lt_irrefl _ this
        · rintro G ⟨s8, hr8, hdg, nDr⟩
          have hnl : (nI (cheapD ds e)).length = (cheapD ds e).length := by unfold nI; rw [List.length_map]
          rw [hnl, List.take_length] at hdg
          intro x0 dx0 nx ndx nex
          have sm : Same G (upd (upd G dx0 (.own x0)) x0 (.ins CC dx0 [])) := fun b o e' => by
            rw [upd_ne (ne_of_none e' nx), upd_ne (ne_of_none e' ndx)]
            exact e'
          refine ⟨x0, dx0, D8, (i : Int), agL ds (cheapD ds e), rfl, upd_same, hdg.same sm, asc_cheap ds e, by unfold agL; rw [List.length_map]; omega, fun H9 ag bt9 chat dag9 nag => ⟨rfl, ?_⟩⟩
          have s9 : Same H6 H9 := (s7.trans s8).trans fun b o e' => bt9 b o (ne_of_none e' nx) (sm b o e')
          refine (k H9 (ec6.trans (s9.ca (ds := ds)).extC) (ch6.same s9 (by omega)) (T6.ext s9)).2 i e x0 ag he hgd (fun e' he' hlt => ?_) chat dag9
          obtain ⟨m, hm⟩ := List.mem_iff_getElem?.mp he'
          have hmc : m ∈ cheapD ds e := by
            unfold cheapD cheapL
            rw [List.mem_filter]
            refine ⟨List.mem_range.mpr (by rw [hkl]; exact (List.getElem?_eq_some_iff.mp hm).1), decide_eq_true ?_⟩
            rw [List.getElem?_map, hm]
            exact hlt
          obtain ⟨e2, h1, h2⟩ := hgj m (hin m hmc)
          rw [hm] at h1
          cases h1
          exact h2
      | false =>
        refine iteF ?_
        obtain ⟨is, hr⟩ : ∃ is, e.r = .inl is := by
          unfold Ch.good at hgd
          cases hdr : e.r with
          | inl is => exact ⟨is, rfl⟩
          | inr fs =>
            rw [hdr] at hgd
            cases hgd
        rw [hr] at jat
        obtain ⟨dx6, l6, h6, hp6⟩ := jat
        have epr : progL ds i = is := by
          unfold progL
          rw [he]
          show (match e.r with | .inl is => is | .inr _ => []) = is
          rw [hr]
        have hkvl : kvs.length ≤ 1000 := by
          rw [hb6.1]
          unfold agL
          rw [List.length_map, List.length_take]
          omega
        refine ⟨_, rfl, q6, CW, dx6, _, _, rfl, h6, TW.cl, TW.na, rfl, _, rfl, _, rfl, pr, _, rfl, DPut.k (k := (Sum.inl (i : Int) : Key)) hpr6 (szl (by omega)), ?_⟩
        have npc : ca ≠ pr := ne_of hca6 hpr6 (by intro z; cases z)
        have npD : D ≠ pr := ne_of hD6 hpr6 (by intro z; cases z)
        refine ⟨_, _, rfl, fun b o n m e' => ?_, by rw [upd_ne npc]; exact hca6, by rw [upd_ne npD]; exact hD6, ch6.updA (ch6.notAg hpr6 hb6) (fun xs z => by rw [hpr6] at z; cases z), tabs_upd T6 hpr6, ?_, fun i' hi' => ?_⟩
        · rw [upd_ne (ne_of_none e' nprH)]
          exact ec6 b o n m e'
        · rw [take_succ_at hi, agL_snoc, epr]
          exact dag_put hpr6 hb6 (fun q hq z => nij (by rw [← z]; exact agL_mem hq)) hp6
        · rw [take_succ_at hi] at hi'
          rcases List.mem_append.mp hi' with h | h
          · exact hgj i' h
          · rw [List.mem_singleton.mp h]
            exact ⟨e, he, hgd⟩
    · rintro σ' G ⟨v2, v3, rfl, ec, hcaj, hDj, chj, Tj, hdg, hgj⟩
      have hql : (nI qs).length = qs.length := by unfold nI; rw [List.length_map]
      rw [hql, List.take_length] at hgj
      refine (k G ec (chj.same (Same.refl G) (by omega)) Tj).1 fun d hd => ?_
      obtain ⟨i, hi⟩ := List.mem_iff_getElem?.mp hd
      have hil : i < ds.length := (List.getElem?_eq_some_iff.mp hi).1
      obtain ⟨e, h1, h2⟩ := hgj i (qperm.mem_iff.mpr (List.mem_range.mpr hil))
      rw [hi] at h1
      cases h1
      exact h2
end
end K3
namespace K3
open PySem PySem.Spec PyProof.Rows L2
/-! ### the 72 settings -/
def plB (ti : PI0) (is : List Ins) : Bool := decide (is.length ≤ 8) && (is.all (okIns ti)) && (playS ti is).isSome
theorem plB.ok {ti : PI0} {is : List Ins} (h : plB ti is = true) : PlOk ti is := by
  unfold plB at h
  simp only [Bool.and_eq_true, List.all_eq_true, decide_eq_true_eq] at h
  obtain ⟨⟨h1, h2⟩, h3⟩ := h
  obtain ⟨⟨hs, rss, es⟩, e⟩ := Option.isSome_iff_exists.mp h3
  exact ⟨h1, fun i hi => okIns.is (h2 i hi), hs, rss, es, e⟩
/-- by the law's own play, a program is wrong -/
def lawWrong (ti : PI0) (is : List Ins) : Bool := match lplayS ti is with
  | some (_, rss, es) => !decide (rss = (lplainS ti is).1 ∧ es = (lplainS ti is).2)
  | none => false
theorem lawWrong.ok {ti : PI0} {is : List Ins} (h : lawWrong ti is = true) : ∃ hs rss es, lplayS ti is = some (hs, rss, es) ∧ ¬ (rss = (lplainS ti is).1 ∧ es = (lplainS ti is).2) := by
  unfold lawWrong at h
  cases e : lplayS ti is with
  | none => rw [e] at h; cases h
  | some q =>
    obtain ⟨hs, rss, es⟩ := q
    rw [e] at h
    refine ⟨hs, rss, es, rfl, fun z => ?_⟩
    simp only [decide_eq_true z] at h
    cases h
def chB (ti : PI0) (ki : KI) : Bool := (match judgeF ti (insF ki) 6 0 (begin_ ti) with
  | some (.inl is) => plB ti is && !(rightB ti is) && lawWrong ti is
  | some (.inr _) => true
  | none => false) && (plB ti [] && rightB ti [])
def tiOf (ki : KI) (ho od : Bool) : PI0 := ⟨1, [("add", ki)], ho, od⟩
def kiN (s l wy : Nat) : KI := ⟨s, l, if wy = 0 then none else some wy⟩
def allB : Bool := (List.range 3).all fun s => (List.range 4).all fun l => (List.range 3).all fun wy => [true, false].all fun ho => [true, false].all fun od => decide (l = 0) || decide (l ≤ wy) || chB (tiOf (kiN s l wy) ho od) (kiN s l wy)
theorem all_b : allB = true := by decide +kernel
theorem chB_of {ki : KI} (h : KiOk ki) (h3 : ki.len ≤ 3) (ho od : Bool) : chB (tiOf ki ho od) ki = true := by
  obtain ⟨s, l, wy⟩ := ki
  obtain ⟨sN, rfl⟩ := Int.eq_ofNat_of_zero_le h.s.1
  obtain ⟨lN, rfl⟩ := Int.eq_ofNat_of_zero_le (show (0 : Int) ≤ l by have : 1 ≤ l := h.l.1; omega)
  have hs : (sN : Int) ≤ 2 := h.s.2
  have hl : (1 : Int) ≤ (lN : Int) := h.l.1
  have hl3 : (lN : Int) ≤ 3 := h3
  obtain ⟨wN, e, hw⟩ : ∃ wN : Nat, wy = (if wN = 0 then none else some (wN : Int)) ∧ wN < lN := by
    cases wy with
    | none => exact ⟨0, rfl, by omega⟩
    | some x =>
      have hx := h.w x rfl
      have hx2 : x < (lN : Int) := hx.2
      obtain ⟨xN, rfl⟩ := Int.eq_ofNat_of_zero_le (show (0 : Int) ≤ x by omega)
      exact ⟨xN, by rw [if_neg (by omega)], by omega⟩
  subst e
  have a := all_b
  unfold allB at a
  simp only [List.all_eq_true] at a
  have a1 := a sN (List.mem_range.mpr (by omega)) lN (List.mem_range.mpr (by omega)) wN (List.mem_range.mpr (by omega)) ho (by cases ho <;> simp) od (by cases od <;> simp)
  rw [decide_eq_false (show ¬ lN = 0 by omega), decide_eq_false (show ¬ lN ≤ wN by omega), Bool.false_or, Bool.false_or] at a1
  exact a1
/-- settings that the law keeps, and what their judgement is -/
structure LawOk (d : Ch) : Prop where
  ch : ChOk d
  lw : ∀ is, d.r = .inl is → lawWrong d.ti is = true
theorem koOne {ki : KI} (h : KiOk ki) : KOk [(("add" : Str), ki)] := by
  have fnd : ∀ x i, find [(("add" : Str), ki)] x = some i → x = "add" ∧ i = ki := by
    intro x i e
    unfold find at e
    rw [List.find?_cons] at e
    by_cases hx : ("add" : Str) = x
    · simp only [decide_eq_true hx] at e
      exact ⟨hx.symm, (Option.some.inj e).symm⟩
    · simp only [decide_eq_false hx] at e
      cases e
  refine ⟨?_, fun x i e => ?_, fun x i e => ?_⟩
  · cases e : find [(("add" : Str), ki)] "" with
    | none => rfl
    | some i => exact absurd (fnd _ _ e).1 (by decide +kernel)
  · obtain ⟨_, rfl⟩ := fnd x i e
    exact h.l
  · obtain ⟨rfl, _⟩ := fnd x i e
    decide +kernel
theorem lawOk_of {ki : KI} (h : KiOk ki) (h3 : ki.len ≤ 3) (ho od : Bool) : ∃ r, ∀ pr p kdA c, LawOk ⟨pr, tiOf ki ho od, ki, p, kdA, c, r⟩ := by
  have b := chB_of h h3 ho od
  unfold chB at b
  rw [Bool.and_eq_true, Bool.and_eq_true] at b
  obtain ⟨b1, b2, b3⟩ := b
  cases e : judgeF (tiOf ki ho od) (insF ki) 6 0 (begin_ (tiOf ki ho od)) with
  | none => rw [e] at b1; cases b1
  | some r =>
    refine ⟨r, fun pr p kdA c => ⟨⟨⟨rfl, rfl, h.s.1, h.s.2⟩, koOne h, e, fun is hr => ?_, plB.ok b2, b3⟩, fun is hr => ?_⟩⟩
    · have hr' : r = .inl is := hr
      subst hr'
      rw [e] at b1
      simp only [Bool.and_eq_true, Bool.not_eq_true'] at b1
      exact ⟨plB.ok b1.1.1, b1.1.2⟩
    · have hr' : r = .inl is := hr
      subst hr'
      rw [e] at b1
      simp only [Bool.and_eq_true, Bool.not_eq_true'] at b1
      exact b1.2
end K3
namespace K3
open PySem PySem.Spec PyProof.Rows L2
/-! ### d.items() walked by one name -/
section
variable {prog : Program} {w : World} {A : Around} {E : Value → Shared → Prop} {s : Shared}
theorem alive_any {a : Addr} {Q : Option Obj → Shared → Prop} (h : Q (s.heap.get? a) s) : wpAny (model prog w) A (loadIfAlive a) Q E s := fun _ _ _ => h
abbrev TupKV (e : DictEntry) : Obj := { cls := .type "tuple", data := .seq #[e.key, e.val] }
theorem nextN {I dc a0 : Addr} {fl : Bool} {n ep : Nat} {es : Array DictEntry} {x1 x2 : Value} {R : Option Value → Shared → Prop} (rI : PySem.W.KdxIt s.heap I dc n es.size ep x1 x2 a0 fl) (raw : s.heap.DictRaw dc es ep) (lt : n < es.size)
    (go : ∀ h' y1 y2 a1 f1, PySem.W.KdxIt h' I dc (n + 1) es.size ep y1 y2 a1 f1 → h'.get? s.heap.objs.size = some (TupKV es[n]) → h'.objs.size = s.heap.objs.size + 1 → (∀ b o, b ≠ I → s.heap.get? b = some o → h'.get? b = some o) → R (some (.ref s.heap.objs.size)) { s with heap := h' }) :
    wpAny (model prog w) A (pyNext (.ref I)) R E s := by
  obtain ⟨h0, g0, r0, t0, o0⟩ := s; obtain ⟨ob, e1, e2, e3⟩ := id raw
  have ty : Shared.TypeIs ⟨h0, g0, r0, t0, o0⟩ (.ref I) "dict_itemiterator" := ⟨_, rI, rfl⟩
  unfold pyNext; refine wpAny_bind (wpAny_attempt (wpAny_callSpecial?_slot (name := Str.ofString "__next__") ty F.slot_dict_itemiterator_next (wpAny_call_entry F.slot_dict_itemiterator_next ty F.entry_dict_itemiterator_next ?_ (F.args_dict_itemiterator_next_1 _))))
  refine wpAny_bind (wpAny_pure (wpAny_bind (wpAny_bind ?_)))
  first | refine wpAny_bind (wpAny_typeNameOfWhole_itemiter ty (wpAny_pure (wpAny_bind (wpAny_fieldsOf rI rfl ?_)))) | refine wpAny_bind (wpAny_typeNameOf_itemiter ty (wpAny_pure (wpAny_bind (wpAny_fieldsOf rI rfl ?_))))
  have owns : Builtin.Dict_items.ownsTuple "dict_itemiterator" = true := by decide
  simp only [owns, if_true]; show wpAny _ _ (if (Value.ref dc == Value.none) = true then _ else _) _ _ _
  rw [if_neg (show ¬ ((Value.ref dc == Value.none) = true) from Bool.false_ne_true)]; refine wpAny_bind (wpAny_pure (wpAny_bind (wpAny_dictEntries e1 e3 ?_)))
  rw [if_neg (by simp)]; refine wpAny_bind (wpAny_pure (wpAny_bind (wpAny_dictEpoch e1 e3 ?_)))
  rw [if_neg (by simp)]; refine wpAny_pure ?_
  simp only [show ¬ ((n : Int) < 0) from by omega, if_false, Int.toNat_natCast, Array.getElem?_eq_getElem lt]; refine wpAny_bind ?_
  first | refine wpAny_bind (wpAny_typeNameOfWhole_itemiter ty (wpAny_pure (wpAny_bind (wpAny_isOneOf_itemiter ty ?_)))) | refine wpAny_bind (wpAny_typeNameOf_itemiter ty (wpAny_pure (wpAny_bind (wpAny_isOneOf_itemiter ty ?_))))
  show wpAny _ _ (setField (.ref I) 3 (rawInt ((n : Int) + 1)) >>= _) _ _ ⟨h0, g0, r0, t0, o0⟩
  refine wpAny_bind (wpAny_setField_rec rI (by simp) fun hA eA (sA : Heap.SameBut I h0 hA) => ?_)
  have eA : PySem.W.KdxIt hA I dc (n + 1) es.size ep x1 x2 a0 fl := by
    have z : ((n + 1 : Nat) : Int) = (n : Int) + 1 := by omega
    show hA.get? I = _; rw [z]; simpa [rawInt] using eA
  have tA : Shared.TypeIs ⟨hA, g0, r0, t0, o0⟩ (.ref I) "dict_itemiterator" := ⟨_, eA, rfl⟩
  refine wpAny_bind (wpAny_holding (wpAny_bind (wpAny_isOneOf_itemiter tA (wpAny_bind (wpAny_isOneOf_itemiter tA ?_)))))
  show wpAny _ _ (Builtin.Dict_items.pairFromOwner (.ref I) 6 es[n].key es[n].val) _ _ ⟨hA, g0, r0, t0, o0⟩
  unfold Builtin.Dict_items.pairFromOwner; refine wpAny_bind (wpAny_newTuple ?_)
  have eB : PySem.W.KdxIt (hA.push (TupKV es[n])) I dc (n + 1) es.size ep x1 x2 a0 fl := Heap.get?_push_of_some _ eA
  have zA : hA.objs.size = h0.objs.size := sA.1
  have iL : I < h0.objs.size := Heap.lt_size rI
  have tB : (hA.push (TupKV es[n])).get? h0.objs.size = some (TupKV es[n]) := by rw [← zA]; exact Heap.get?_push_size _ rfl
  have zB : (hA.push (TupKV es[n])).objs.size = h0.objs.size + 1 := by rw [Heap.size_push, zA]
  have kB : ∀ b o, b ≠ I → h0.get? b = some o → (hA.push (TupKV es[n])).get? b = some o := fun b o nb e => Heap.get?_push_of_some _ (sA.extBut b o nb e)
  show wpAny _ _ (Builtin.Dict_items.ownedTupleIsFree (.ref I) >>= _) _ _ ⟨hA.push (TupKV es[n]), g0, r0, t0, o0⟩
  rw [zA]
  generalize hA.push (TupKV es[n]) = hB at eB tB zB kB
  clear zA tA eA sA
  have fin : ∀ (hC : Heap) y1 y2 a1 f1, PySem.W.KdxIt hC I dc (n + 1) es.size ep y1 y2 a1 f1 → Heap.SameBut I hB hC → R (some (.ref h0.objs.size)) ⟨hC, g0, r0, t0, o0⟩ := fun hC y1 y2 a1 f1 eC sC =>
    go hC y1 y2 a1 f1 eC (sC.extBut _ _ (Nat.ne_of_gt iL) tB) (by rw [sC.1]; exact zB) fun b o nb e => sC.extBut b o nb (kB b o nb e)
  refine wpAny_bind ?_
  unfold Builtin.Dict_items.ownedTupleIsFree; refine wpAny_bind (wpAny_field eB rfl (x := rawInt a0) rfl ?_)
  show wpAny _ _ (loadIfAlive ((a0 : Int).toNat) >>= _) _ _ _
  rw [Int.toNat_natCast]; refine wpAny_bind (alive_any ?_)
  cases al : hB.get? a0 with
  | some oa =>
    simp only [Option.isNone_some, Bool.false_eq_true, if_false]; refine wpAny_bind (wpAny_field eB rfl (x := .bool fl) rfl ?_)
    cases fl with
    | true =>
      rw [if_neg (show ¬ ((Value.bool true != Value.bool true) = true) from Bool.false_ne_true)]; refine wpAny_pure ?_
      simp only [Bool.false_eq_true, if_false]; exact wpAny_pure (wpAny_pure ⟨_, rfl, wpAny_pure (fin _ _ _ _ _ eB (Heap.SameBut.refl _ _))⟩)
    | false =>
      rw [if_pos (show (Value.bool false != Value.bool true) = true from rfl)]; refine wpAny_bind (wpAny_setField_rec eB (by simp) fun hC eC (sC : Heap.SameBut I hB hC) => wpAny_pure ?_)
      simp only [Bool.false_eq_true, if_false]; exact wpAny_pure (wpAny_pure ⟨_, rfl, wpAny_pure (fin hC x1 x2 a0 true eC sC)⟩)
  | none =>
    simp only [Option.isNone_none, if_true]; refine wpAny_pure ?_
    simp only [if_true]; refine wpAny_bind (wpAny_field eB rfl (x := x1) rfl (wpAny_bind (wpAny_field eB rfl (x := x2) rfl ?_)))
    refine wpAny_bind (wpAny_setField_rec eB (by simp) fun hC eC (sC : Heap.SameBut I hB hC) => ?_)
    replace eC : PySem.W.KdxIt hC I dc (n + 1) es.size ep es[n].key x2 a0 fl := eC
    refine wpAny_bind (wpAny_setField_rec eC (by simp) fun hD eD (sD : Heap.SameBut I hC hD) => ?_)
    replace eD : PySem.W.KdxIt hD I dc (n + 1) es.size ep es[n].key es[n].val a0 fl := eD
    refine wpAny_bind (wpAny_setField_rec eD (by simp) fun hE eE (sE : Heap.SameBut I hD hE) => ?_)
    replace eE : PySem.W.KdxIt hE I dc (n + 1) es.size ep es[n].key es[n].val h0.objs.size fl := eE
    refine wpAny_bind (wpAny_setField_rec eE (by simp) fun hF eF (sF : Heap.SameBut I hE hF) => ?_)
    replace eF : PySem.W.KdxIt hF I dc (n + 1) es.size ep es[n].key es[n].val h0.objs.size false := eF
    refine wpAny_bind (wpAny_letGo (wpAny_pure (wpAny_pure ⟨_, rfl, wpAny_pure (go hF _ _ _ _ eF ?_ ?_ ?_)⟩)))
    · exact sF.extBut _ _ (Nat.ne_of_gt iL) (sE.extBut _ _ (Nat.ne_of_gt iL) (sD.extBut _ _ (Nat.ne_of_gt iL) (sC.extBut _ _ (Nat.ne_of_gt iL) tB)))
    · show hF.objs.size = h0.objs.size + 1
      rw [sF.1, sE.1, sD.1, sC.1, zB]
    · exact fun b o nb e => sF.extBut b o nb (sE.extBut b o nb (sD.extBut b o nb (sC.extBut b o nb (kB b o nb e))))
end
section
variable {P : Program} {w : World} {K : PySem.W.Frag} {d : Addr} {o : Obj} {es : Array DictEntry} {ep : Nat}
theorem turn_itemsN {kvs : List (Key × V)} {nm : Str} {np : Pos} (it : Addr) (hod : o.data = .dict es ep) (hoc : o.ExactDict) (hes : es.size = kvs.length) :
    Turn P w K (.Name nm np) (Iti d o kvs) [it] it (fun i h => (i = 0 ∧ IsItemIter h it d 0 kvs.length ep .none .none) ∨ ∃ y1 y2 a1 f1, PySem.W.KdxIt h it d i kvs.length ep y1 y2 a1 f1) where
  mem := by simp
  obj := fun i h st b hb => by
    obtain rfl : b = it := by simpa using hb
    rcases st with ⟨_, e⟩ | ⟨_, _, _, _, e⟩ <;> exact ⟨_, e, fun v z => nomatch z⟩
  keep := fun i h h' st k => by
    rcases st with ⟨rfl, e⟩ | ⟨y1, y2, a1, f1, e⟩
    · exact .inl ⟨rfl, k it (by simp) _ e⟩
    · exact .inr ⟨y1, y2, a1, f1, k it (by simp) _ e⟩
  item := by
    intro X hP hw hK hc i pins s σ H E I hf st hg
    subst hP hw hK
    obtain ⟨hd, hi⟩ := hg
    obtain ⟨hs, hgd, hx, es', ep', vs, hdt, hsz, kv, hm⟩ := I.frzK hd
    obtain ⟨rfl, rfl⟩ := dict_ep hod hdt
    have hik : i < es'.size := by rw [hsz]; exact hi
    obtain ⟨k, v, hkv⟩ : ∃ k v, kvs[i]? = some (k, v) := ⟨kvs[i].1, kvs[i].2, List.getElem?_eq_getElem hi⟩
    obtain ⟨u, hu, ru⟩ := kv_get kv hkv
    obtain ⟨es2, raw, _, hat⟩ := hm.raw
    obtain ⟨o2, g1, _, g2⟩ := id raw
    rw [hgd] at g1
    obtain rfl := Option.some.inj g1
    obtain ⟨rfl, _⟩ := dict_ep hdt g2
    obtain ⟨hkey, hval⟩ := hat i hik k u hu
    have hlt : it < s.heap.objs.size := by
      rcases st with ⟨_, e⟩ | ⟨_, _, _, _, e⟩ <;> exact Heap.lt_size e
    have fin : ∀ h' y1 y2 a1 f1, PySem.W.KdxIt h' it d (i + 1) kvs.length ep' y1 y2 a1 f1 → h'.get? s.heap.objs.size = some (TupKV es2[i]) → (∀ b ob, b ≠ it → s.heap.get? b = some ob → h'.get? b = some ob) →
        ∃ u, some (Value.ref s.heap.objs.size) = some u ∧ wpAny (model X.prog X.w) X.A (letOwnedTupleGo (.Name nm np) (.ref it) u) (fun _ s2 => ∃ x H', Inv X pins σ H' s2 ∧ RelV x u ∧ (Iti d o kvs).yld i H x H' ∧
          ((i + 1 = 0 ∧ IsItemIter s2.heap it d 0 kvs.length ep' .none .none) ∨ ∃ y1 y2 a1 f1, PySem.W.KdxIt s2.heap it d (i + 1) kvs.length ep' y1 y2 a1 f1) ∧ ∀ b ∈ [it], H' b = none) E { s with heap := h' } := by
      intro h' y1 y2 a1 f1 e ht hk
      refine ⟨_, rfl, wpAny_pure ?_⟩
      have new : ObjOk X.prog X.w (upd H s.heap.objs.size (.tup [kV k, v])) h' s.heap.objs.size (.tup [kV k, v]) :=
        ⟨by show 2 ≤ sizeLine; decide, [es2[i].key, es2[i].val], .cons (relV_key (show keyIs k es2[i].key = true from hkey)) (.cons (by rw [hval]; exact ru) .nil), ⟨_, ht, rfl, _, rfl⟩⟩
      have J : Inv X pins σ (upd H s.heap.objs.size (.tup [kV k, v])) { s with heap := h' } := I.turnedNew (t' := s.toks) (ch := [it]) (fun b ob hb e => hk b ob (by simpa using hb) e) hf (Nat.le_refl _) new
      refine ⟨.ref s.heap.objs.size, _, J, rfl, ⟨_, k, v, hkv, rfl, I.hok.fresh (Nat.le_refl _), rfl⟩, .inr ⟨y1, y2, a1, f1, e⟩, fun b hb => ?_⟩
      obtain rfl : b = it := by simpa using hb
      rw [upd_ne (Nat.ne_of_lt hlt)]
      exact (hf b (by simp)).1
    rcases st with ⟨rfl, e⟩ | ⟨y1, y2, a1, f1, e⟩
    · rw [← hsz] at e
      exact wpAny_pyNext_items_item_raw e raw hik fun h' e' ht hz hk => fin h' _ _ _ false (by rw [← hsz]; exact e') ht hk
    · rw [← hsz] at e
      exact nextN e raw hik fun h' y1 y2 a1 f1 e' ht hz hk => fin h' _ _ _ _ (by rw [← hsz]; exact e') ht hk
  done := by
    intro X hP hw hK hc i pins s σ H E I hf st hg
    subst hP hw hK
    obtain ⟨hd, hi⟩ := hg
    obtain ⟨f0, f1, f2, f3, f4, f5⟩ := hf it (by simp)
    obtain ⟨hs, hgd, hx, es', ep', vs, hdt, hsz, kv, hm⟩ := I.frzK hd
    obtain ⟨rfl, rfl⟩ := dict_ep hod hdt
    have hge : es'.size ≤ i := by rw [hsz]; exact hi
    have raw : s.heap.DictRaw d es' ep' := ⟨o, hgd, hx, hdt⟩
    have fin : ∀ h', Heap.ExtBut it s.heap h' → none = (none : Option Value) ∧ Inv X pins σ H { s with heap := h' } := fun h' eb => ⟨rfl, I.turned (t' := s.toks) (fun b ob hb e => eb b ob hb e) f0 f1 f3 f4 f5⟩
    rcases st with ⟨rfl, e⟩ | ⟨y1, y2, a1, f1, e⟩
    · rw [← hsz] at e
      exact wpAny_pyNext_items_end_raw (I.ok.hd hc) e raw hge fin
    · rw [← hsz] at e
      exact wpAny_pyNext_items_end_out_raw (I.ok.hd hc) e raw hge fin
  self := fun A i s Q E st h => by
    have ty : s.TypeIs (.ref it) "dict_itemiterator" := by
      rcases st with ⟨rfl, e⟩ | ⟨y1, y2, a1, f1, e⟩ <;> exact ⟨_, e, rfl⟩
    refine wpAny_pyIter_slot ty F.slot_dict_itemiterator_iter (wpAny_call_entry F.slot_dict_itemiterator_iter ty PySem.W.kcp_entry ?_ (F.args_dict_itemiterator_iter_1 _))
    show wpAny _ _ (ret (.ref it)) _ _ s
    exact wpAny_pure ⟨_, rfl, "dict_itemiterator", _, ty, F.slot_dict_itemiterator_next.lookup, h⟩
theorem pi_itemsN {X : Cx} {e : Expr} {td : TE} {apos cpos : Pos} {nm : Str} {np : Pos} (he : PE X e td) (hbase : attributeBase e "items" X.env (eval e X.env) = eval e X.env := by rfl) (hline : (apos.endLine == cpos.line) = true := by rfl) :
    PI X (.Name nm np) (.Call (.Attribute e "items" apos) [] [] cpos) (iItems td) := by
  refine ⟨fun pins s σ H R I h => ?_⟩
  refine wpAny_Call_method (T := "dict") (id := "dict.items") hbase rfl hline F.plainAttrs_dict F.slot_dict_items F.type_dict_items (thn (he.run pins s σ H _ I h) fun u sB ⟨x, HB, J, rx, d, o, kvs, ex, hd, q⟩ => ?_)
  subst ex
  obtain rfl : u = Value.ref d := rx
  obtain ⟨hs, hgd, hx, es, ep, vs, hdt, hsz, kv, hm⟩ := J.frzK hd
  have hl : kvs.length = vs.length := Paired.length kv
  refine ⟨hm.dictOf.typeIs, hm.dictOf.mapOf.noDict, ?_⟩
  let view : Obj := { cls := .type "dict_items", data := .fields #[.ref d] }
  have J2 : Inv X pins σ HB { sB with heap := sB.heap.push view } := J.kept (t' := sB.toks) fun b ob q => Heap.get?_push_of_some _ q
  have done : wpAny (model X.prog X.w) X.A (pyIter (.ref sB.heap.objs.size)) (PIE X pins σ (.Name nm np) R) X.xe { sB with heap := sB.heap.push view } := by
    refine wpAny_pyIter_items (d := d) (knd := mixKind X.prog X.w) ⟨view, Heap.get?_push_size _ rfl, rfl, rfl⟩ (hm.push _) (pi_one (tk := sB.toks) J2 _ (turn_itemsN _ hdt hx hsz) (.inl ⟨rfl, ?_⟩) q)
    rw [hl]; exact Heap.get?_push_size _ rfl
  show wpAny _ _ (callWith cpos (.builtin "dict.items") [.ref d] [] []) _ X.xe sB
  exact method_meetsIn F.slot_dict_items F.entry_dict_items rfl (PySem.evalArgs_none ⟨rfl, hm.dictOf.typeIs, F.args_dict_items_1 _, _, meets_dict_items (mixKind X.prog X.w) d hs, ⟨vs, hm.dictOf⟩, done⟩)
theorem walk_itemsN {kvs : List (Key × V)} : Walk (Iti d o kvs) kvs.length (fun H => H d = some (.frz o (.dK kvs))) (fun i H x H' => ∃ T k v, kvs[i]? = some (k, v) ∧ x = .ref T ∧ H T = none ∧ H' = upd H T (.tup [kV k, v])) :=
  ⟨fun _ _ hi q => ⟨q, hi⟩, fun _ q => ⟨q, Nat.le_refl _⟩, fun _ _ _ _ _ _ y => y⟩
/-! ### a dict told apart from the empty one -/
def rNeE : R2 := fun x y H Q => ∃ a b ks, x = .ref a ∧ y = .ref b ∧ H a = some (.dK ks) ∧ H b = some (.dK []) ∧ Q (.bl (!ks.isEmpty)) H
theorem op_neE {X : Cx} (hu : X.A.units < cLine) : OpR X (compareOp .NotEq) rNeE := by
  intro pins s σ H x y v u Q I rx ry h
  obtain ⟨a, b, ks, rfl, rfl, ea, eb, q⟩ := h
  obtain rfl : v = Value.ref a := rx
  obtain rfl : u = Value.ref b := ry
  obtain ⟨_, ya, va, ra, da⟩ := (show ObjOk X.prog X.w H s.heap a (.dK ks) from I.hok a _ ea)
  obtain ⟨_, yb, vb, rb, db⟩ := (show ObjOk X.prog X.w H s.heap b (.dK []) from I.hok b _ eb)
  cases rb
  refine PySem.W.keq_ne (knd := mixKind X.prog X.w) (r := true) ya yb da db hu (fun e => ?_) (fin_bl I q ?_)
  · cases va with
    | nil => exact .nil
    | cons p r => cases e
  · have l := ra.length
    cases ks with
    | nil => cases va with
      | nil => rfl
      | cons p r => cases l
    | cons p r => cases va with
      | nil => cases l
      | cons p' r' => rfl
end
end K3
namespace K3
open PySem PySem.Spec PyProof.Rows L2
abbrev nLaw : List Str := ["script", "told", "at", "prices", "choices", "found", "good", "least", "program", "held", "reads", "ends", "bad", "error", "turn", "one", "row", "price", "pipe"]
theorem scLaw : FnScope nLaw ["script"] (defScope sLaw) := ⟨rfl, rfl, rfl, by decide +kernel, rfl, by decide +kernel, by decide +kernel⟩
def lcIn : Stmt → Scope
  | .Assign _ (.ListComp _ _ sc _) _ => sc
  | _ => { kind := .function, names := [], isGenerator := false, isCoroutine := false }
def lawSc2 : Scope := lcIn ((defBody sLaw).getD 1 (.Pass ⟨0, 0, 0, 0⟩))
def spLaw (K : PySem.W.Frag) (PT : Addr) : Sp := fun vs H Q _ => ∃ (a : Addr) (ns : List Int), vs = [.ref a] ∧ SqL K H a (ns.map V.int) ∧ ns.length ≤ 63 ∧ LamX.Tabs (tabT PT) H ∧ ∀ H', Q (.bl true) H'
def rDictP (K : PySem.W.Frag) : List V → Hp → VK → Prop := fun xs H Q => ∃ (a : Addr) (ps : List Addr) (kvs : List (Key × V)), xs = [.ref a] ∧ SqL K H a (ps.map V.ref) ∧ Paired (fun p kv => SqT K H p [kV kv.1, kv.2]) ps kvs ∧ ∀ p, H p = none → Q (.ref p) (upd H p (.dK (mergeK [] kvs)))
theorem dictPK {X : Cx} (K : PySem.W.Frag) (hc : X.calm = true := by rfl) (h : X.K = K := by rfl) : CallR X (.type "dict") (rDictP K) := h ▸ call_dictP hc
/-- for a, (b, c) in .. -/
theorem pgN3 {X : Cx} (K : PySem.W.Frag) (i j l : Nat) {x y z : Str} {p1 p2 p3 p4 p5 : Pos} {k1 k2 : Nat} (nd : X.N.Nodup) (hc : X.calm = true := by rfl) (hi : X.N[i]? = some x := by rfl) (hj : X.N[j]? = some y := by rfl) (hl : X.N[l]? = some z := by rfl)
    (hx : Loc X.env.scope x := by exact .inl rfl) (hy : Loc X.env.scope y := by exact .inl rfl) (hz : Loc X.env.scope z := by exact .inl rfl)
    (fx : X.fn x = true ∨ X.env.scope.names.lookup x = some .local := by exact .inr rfl) (fy : X.fn y = true ∨ X.env.scope.names.lookup y = some .local := by exact .inr rfl) (fz : X.fn z = true ∨ X.env.scope.names.lookup z = some .local := by exact .inr rfl)
    (h1 : (assignEach [.Name y p2, .Name z p3] X.env).length = 2 := by rfl) (h2 : (assignEach [.Name y p2, .Name z p3] X.env).findIdx? (·.1) = none := by rfl)
    (h3 : (assignEach [.Name x p1, .Tuple [.Name y p2, .Name z p3] k1 p4] X.env).length = 2 := by rfl) (h4 : (assignEach [.Name x p1, .Tuple [.Name y p2, .Name z p3] k1 p4] X.env).findIdx? (·.1) = none := by rfl) (h : X.K = K := by rfl) :
    PG X (.Tuple [.Name x p1, .Tuple [.Name y p2, .Name z p3] k1 p4] k2 p5) (gTup K 2 (gCons (gName i) (gCons (gTup K 2 (gCons (gName j) (gCons (gName l) gNil))) gNil))) :=
  h ▸ pg_tup hc (pgs_cons (pg_name nd hi hx fx) (pgs_cons (pg_tup hc (pgs_cons (pg_name nd hj hy fy) (pgs_cons (pg_name nd hl hz fz) pgs_nil)) h1 h2) pgs_nil)) h3 h4
section
variable {P : Program} {w : World} {K : PySem.W.Frag} {mg : Str → Option Value} {base : Heap} {C CB CC CR CW PT : Addr}
/-- what the law meets -/
structure LawF (P : Program) (w : World) (K : PySem.W.Frag) (mg : Str → Option Value) (base : Heap) (C CB CC CR CW PT f1 f2 f3 f4 f5 f6 f7 fH fS tR tW : Addr) (d1 d2 d3 d4 d5 d6 d7 dH dS tdR tdW : FuncData) : Prop where
  T : Txt K mg
  zip : mg "zip" = none
  min : mg "min" = none
  mgB : mg "BadPipe" = some (.ref CB)
  xf : L2.XfC K CB
  noN : PySem.W.findIn K (.ref CB) "name" = some none
  exm : PySem.W.exmOne K (.ref CB) (.ref CB) = some true
  TH : TxtH K mg CC
  Set : Dfn P w K mg base "_law_settings" 2 ["script", "at"] (spSet K) f1 d1
  Draw : Dfn P w K mg base "_law_draw" 1 ["script", "at", "many"] (spDraw K) f2 d2
  Pip : Dfn P w K mg base "_law_pipe" 6 ["told"] (spPipe P w C) f3 d3
  Cp : DfX P w K mg base "cheapest_right" 6 ["choices"] (spCR P w C CB CC PT) f4 d4
  J : Dfn P w K mg base "judge_pipe" 5 ["pipe"] (exO fun ti ki => spJudge P w C CW CR ti (insF ki)) f5 d5
  LY : Dfn P w K mg base "_law_played" 4 ["told", "program"] (exO fun ti _ => spLPlayed ti) f6 d6
  LP : Dfn P w K mg base "_law_plain" 1 ["told", "program"] (exO fun ti _ => spLPlain ti) f7 d7
  MH : Mk K CC fH
  FH : FnOk P w K mg base CX0 2 fH dH ["self", "place", "against"] (spHInit CC)
  bH : Binds K dH ["self", "place", "against"] []
  Sh : Dfm P w K mg base CC "shows" 6 ["self", "choices"] (spShows P w C CC) fS dS
  tR : Tru P w K mg base CR true tR tdR
  tW : Tru P w K mg base CW false tW tdW
/-! ### what the law holds -/
def RawT (H : Hp) (v : V) (t : PI0) : Prop := ToldF H v t ∧ ∀ q ∈ t.ks, q.2.len ≤ 3
theorem RawT.same {H H' : Hp} {v : V} {t : PI0} (h : RawT H v t) (s : Same H H') : RawT H' v t := ⟨h.1.same s, h.2⟩
def RawO (H : Hp) (v : V) (q : KI × Bool × Bool) : Prop := ToldF H v (tiOf q.1 q.2.1 q.2.2) ∧ q.1.len ≤ 3
theorem RawO.same {H H' : Hp} {v : V} {t : KI × Bool × Bool} (h : RawO H v t) (s : Same H H') : RawO H' v t := ⟨h.1.same s, h.2⟩
theorem ToldF.updL {H : Hp} {v : V} {t : PI0} {D : Addr} {l : List V} {o : HO} (h : ToldF H v t) (hD : H D = some (.lst l)) : ToldF (upd H D o) v t := by
  obtain ⟨x, d, kvs, h1, h2, h3, h4, h5⟩ := h
  have tp : Tups H (upd H D o) := tups_lst hD
  exact ⟨x, d, kvs, h1, tp _ _ h2, by rw [upd_ne (fun z => by rw [z, hD] at h3; cases h3)]; exact h3, h4.mono tp, h5⟩
theorem Chs.updLst {P : Program} {w : World} {C : Addr} {H : Hp} {B : Nat} {cs : List V} {ds : List Ch} (h : Chs P w C H B cs ds) {D : Addr} {l : List V} {o : HO} (hD : H D = some (.lst l)) : Chs P w C (upd H D o) B cs ds := by
  refine h.updA (fun d hd => ⟨(h.ne hD (fun φ z => by cases z) d hd).symm, fun z => ?_, fun z => ?_⟩) (fun xs z => by rw [hD] at z; cases z)
  · obtain ⟨i, hi⟩ := List.mem_iff_getElem?.mp hd
    obtain ⟨_, _, q⟩ := h.al.at' hi
    obtain ⟨kv, k1, _⟩ := q.kd
    rw [z, hD] at k1
    cases k1
  · obtain ⟨i, hi⟩ := List.mem_iff_getElem?.mp hd
    obtain ⟨_, _, q⟩ := h.al.at' hi
    obtain ⟨dx, k1⟩ := q.pi
    rw [z, hD] at k1
    cases k1
theorem Chs.snoc {P : Program} {w : World} {C : Addr} {H : Hp} {B : Nat} {cs : List V} {ds : List Ch} (h : Chs P w C H B cs ds) {x : V} {d : Ch} (q : ChH P w C H B x d) (hn : ∀ e ∈ ds, e.c ≠ d.c) (ok : ChOk d) (hl : ds.length < 4) : Chs P w C H B (cs ++ [x]) (ds ++ [d]) := by
  refine ⟨Al.snoc h.al q, ?_, fun e he => ?_, by rw [List.length_append]; exact hl⟩
  · rw [List.map_append]
    refine List.nodup_append.mpr ⟨h.nd, List.nodup_cons.mpr ⟨by simp, List.nodup_nil⟩, fun a ha b hb => ?_⟩
    obtain ⟨e, he, rfl⟩ := List.mem_map.mp ha
    rw [List.map_cons, List.map_nil, List.mem_singleton] at hb
    subst hb
    exact hn e he
  · rcases List.mem_append.mp he with he | he
    · exact h.ok e he
    · rw [List.mem_singleton.mp he]; exact ok
abbrev σX (a : Addr) (v1 v2 v3 v4 v5 v6 v7 v8 v9 v10 v11 v12 v13 : Option V) : L2.St := [some (.ref a), v1, v2, v3, v4, v5, v6, v7, v8, v9, v10, v11, v12, v13, none, none, none, none, none]
theorem Al.snocM {R S : V → PI0 → Prop} {vs : List V} {ts : List PI0} {v : V} {t : PI0} (h : Al R vs ts) (m : ∀ x d, R x d → S x d) (hs : S v t) : Al S (vs ++ [v]) (ts ++ [t]) := Al.snoc (h.mono m) hs
theorem unl {d : Addr} {H0 G : Hp} {u : HO} {od : Obj} (h0 : H0 d = some u) (s : Same (upd H0 d (.frz od u)) G) : Same H0 (upd G d u) := fun b ob e => by
  by_cases hz : b = d
  · subst hz
    rw [upd_same, ← e, h0]
  · rw [upd_ne hz]
    exact s _ _ (by rw [upd_ne hz]; exact e)
theorem KtOk.first {ks : KT} (h : KtOk ks) : ∃ ki rest, ks = (("add" : Str), ki) :: rest ∧ (∀ q ∈ rest, q.1 ≠ ("add" : Str)) ∧ KiOk ki ∧ rest.length ≤ 1 := by
  cases ks with
  | nil => rcases h.names with e | e <;> cases e
  | cons p rest =>
    obtain ⟨x, ki⟩ := p
    have kk := h.ok _ List.mem_cons_self
    rcases h.names with e | e
    · rw [List.map_cons] at e
      obtain ⟨rfl, e2⟩ := List.cons.inj e
      rw [List.map_eq_nil_iff] at e2
      subst e2
      exact ⟨ki, [], rfl, (fun q hq => by cases hq), kk, Nat.zero_le _⟩
    · rw [List.map_cons] at e
      obtain ⟨rfl, e2⟩ := List.cons.inj e
      refine ⟨ki, rest, rfl, fun q hq z => ?_, kk, ?_⟩
      · have : q.1 ∈ rest.map (·.1) := List.mem_map_of_mem hq
        rw [e2, List.mem_singleton, z] at this
        exact names_ne this
      · have := congrArg List.length e2
        rw [List.length_map] at this
        exact Nat.le_of_eq this
theorem KtOk.one {ki : KI} (h : KiOk ki) : KtOk [(("add" : Str), ki)] := ⟨.inl rfl, fun q hq => by rw [List.mem_singleton.mp hq]; exact h⟩
theorem tabs_updL {T : List (Addr × Str)} {H : Hp} {a : Addr} {o : HO} {l : List V} (t : LamX.Tabs T H) (ha : H a = some (.lst l)) : LamX.Tabs T (upd H a o) := fun p hp => by
  obtain ⟨ps, h1, h2, h3⟩ := t p hp
  refine ⟨ps, by rw [upd_ne (ne_of h1 ha (by intro z; cases z))]; exact h1, h2, fun pos cv hc => ?_⟩
  obtain ⟨c, e1, e2⟩ := h3 pos cv hc
  exact ⟨c, e1, by rw [upd_ne (ne_of e2 ha (by intro z; unfold LamX.CodeO at z; cases z))]; exact e2⟩
structure LS (P : Program) (w : World) (C PT : Addr) (H : Hp) (tl pL ca : Addr) (B : Nat) (vs cs : List V) (ds : List Ch) : Prop where
  tol : H tl = some (.lst vs)
  toa : Al (fun v d => ToldF H v d.ti) vs ds
  prl : H pL = some (.lst (ds.map fun d => V.int d.pr))
  chl : H ca = some (.lst cs)
  chs : Chs P w C H B cs ds
  tab : LamX.Tabs (tabT PT) H
  lw : ∀ d ∈ ds, LawOk d
  pos : 1 ≤ ds.length
theorem Chs.extC_at {P : Program} {w : World} {C : Addr} {H H' : Hp} {B : Nat} {cs : List V} {ds : List Ch} (h : Chs P w C H B cs ds) (b : ExtC ds H H') {a : Addr} {o : HO} (e : H a = some o) (h1 : ∀ φ, o ≠ .ext φ) (h2 : ∀ ps, o ≠ .tbl ps) : H' a = some o := b _ _ (h.ne e h1) h2 e
theorem Chs.extC_tups {P : Program} {w : World} {C : Addr} {H H' : Hp} {B : Nat} {cs : List V} {ds : List Ch} (h : Chs P w C H B cs ds) (b : ExtC ds H H') : Tups H H' := fun a xs e => h.extC_at b e (fun φ z => by cases z) (fun ps z => by cases z)
theorem Chs.extC_told {P : Program} {w : World} {C : Addr} {H H' : Hp} {B : Nat} {cs : List V} {ds : List Ch} (h : Chs P w C H B cs ds) (b : ExtC ds H H') {v : V} {t : PI0} (ht : ToldF H v t) : ToldF H' v t :=
  let ⟨x, d, kvs, h1, h2, h3, h4, h5⟩ := ht
  ⟨x, d, kvs, h1, h.extC_tups b _ _ h2, h.extC_at b h3 (fun φ z => by cases z) (fun ps z => by cases z), h4.mono (h.extC_tups b), h5⟩
theorem LS.step {P : Program} {w : World} {C PT : Addr} {H H' : Hp} {tl pL ca : Addr} {B B' : Nat} {vs cs : List V} {ds : List Ch} (h : LS P w C PT H tl pL ca B vs cs ds) (b : ExtC ds H H') (c : Chs P w C H' B' cs ds) (t : LamX.Tabs (tabT PT) H') : LS P w C PT H' tl pL ca B' vs cs ds :=
  ⟨h.chs.extC_at b h.tol (fun φ z => by cases z) (fun ps z => by cases z), h.toa.mono fun _ _ q => h.chs.extC_told b q, h.chs.extC_at b h.prl (fun φ z => by cases z) (fun ps z => by cases z), h.chs.extC_at b h.chl (fun φ z => by cases z) (fun ps z => by cases z), c, t, h.lw, h.pos⟩
theorem LS.same {P : Program} {w : World} {C PT : Addr} {H H' : Hp} {tl pL ca : Addr} {B B' : Nat} {vs cs : List V} {ds : List Ch} (h : LS P w C PT H tl pL ca B vs cs ds) (s : Same H H') (hB : B ≤ B') : LS P w C PT H' tl pL ca B' vs cs ds :=
  h.step (s.ca (ds := ds)).extC (h.chs.same s hB) (h.tab.ext s)
def goodAt (ds : List Ch) (i : Nat) : Bool := match ds[i]? with
  | some d => d.good
  | none => false
def goodL (ds : List Ch) : List Nat := (List.range ds.length).filter (goodAt ds)
def CFound (CC : Addr) (H : Hp) (v : V) (ds : List Ch) : Prop := (v = .non ∧ ∀ d ∈ ds, d.good = false) ∨
  ∃ (pl : Nat) (d : Ch) (q ag : Addr), v = .ref q ∧ ds[pl]? = some d ∧ d.good = true ∧ (∀ e ∈ ds, e.pr < d.pr → e.good = false) ∧ ChAt CC H q (pl : Int) ag ∧ DAg H ag (agL ds (cheapD ds d))
theorem Chs.extC_found {P : Program} {w : World} {C CC : Addr} {H H' : Hp} {B : Nat} {cs : List V} {ds : List Ch} (h : Chs P w C H B cs ds) (b : ExtC ds H H') {v : V} (f : CFound CC H v ds) : CFound CC H' v ds := by
  rcases f with f | ⟨pl, d, q, ag, h1, h2, h3, h4, ⟨dx, h5⟩, kvs, h6, h7⟩
  · exact .inl f
  · exact .inr ⟨pl, d, q, ag, h1, h2, h3, h4, ⟨dx, h.extC_at b h5 (fun φ z => by cases z) (fun ps z => by cases z)⟩, kvs, h.extC_at b h6 (fun φ z => by cases z) (fun ps z => by cases z), h7.mono fun _ _ z => z.mono (h.extC_prs b)⟩
theorem cr_ok {H : Hp} {ca : Addr} {B : Nat} {cs : List V} {ds : List Ch} {Q : VK} {E : XK} (hca : H ca = some (.lst cs)) (hch : Chs P w C H B cs ds) (hB : B ≤ 40000) (hT : LamX.Tabs (tabT PT) H)
    (k : ∀ H' v, ExtC ds H H' → Chs P w C H' (B + 2400) cs ds → LamX.Tabs (tabT PT) H' → CFound CC H' v ds → Q v H') : spCR P w C CB CC PT [.ref ca] H Q E :=
  ⟨.ref ca, rfl, .inl ⟨ca, cs, ds, B, rfl, hca, hch, hB, hT, fun H' ec ch T => ⟨fun z => k H' _ ec ch T (.inl ⟨rfl, z⟩), fun pl d q ag z1 z2 z3 z4 z5 => k H' _ ec ch T (.inr ⟨pl, d, q, ag, rfl, z1, z2, z3, z4, z5⟩)⟩⟩⟩
theorem chf_m {pl : Int} {ag : Addr} : (chf pl ag).lookup ("shows" : Str) = none := by
  unfold chf
  rw [L2.lookup_put, if_neg (by decide +kernel), L2.lookup_put, if_neg (by decide +kernel)]
  rfl
theorem mem_goodL {ds : List Ch} {i : Nat} : i ∈ goodL ds ↔ ∃ d, ds[i]? = some d ∧ d.good = true := by
  unfold goodL
  rw [List.mem_filter, List.mem_range]
  constructor
  · rintro ⟨h1, h2⟩
    refine ⟨ds[i], List.getElem?_eq_getElem h1, ?_⟩
    unfold goodAt at h2
    rw [List.getElem?_eq_getElem h1] at h2
    exact h2
  · rintro ⟨d, h1, h2⟩
    refine ⟨(List.getElem?_eq_some_iff.mp h1).1, ?_⟩
    unfold goodAt
    rw [h1]
    exact h2
theorem inV_nI {l : List Nat} {i : Nat} (h : i ∈ l) : inV (.int (i : Int)) (nI l) = true := by
  unfold inV nI
  rw [List.any_eq_true]
  refine ⟨.int (i : Int), List.mem_map.mpr ⟨i, h, rfl⟩, ?_⟩
  show ((i : Int) == (i : Int)) = true
  simp
theorem flat_nI (l : List Nat) : (nI l).all flatV = true := by
  unfold nI
  rw [List.all_eq_true]
  rintro x hx
  obtain ⟨i, _, rfl⟩ := List.mem_map.mp hx
  rfl
theorem keys_nI {H : Hp} {kvs : List (Key × V)} {l : Ag} (hb : Bl (agAt H) kvs l) : (kvs.map fun kv => kV kv.1) = nI (l.map (·.1)) := by
  have e : (kvs.map fun kv => kV kv.1) = (kvs.map (·.1)).map kV := by rw [List.map_map]; rfl
  rw [e, hb.keys]
  unfold nI
  rw [List.map_map, List.map_map, List.map_map]
  rfl
theorem ToldF.ne_ag {H : Hp} {v : V} {t : PI0} {ki : KI} {a : Addr} {kvs : List (Key × V)} {l : Ag} {o : HO} (h : ToldF H v t) (ha : H a = some (.dK kvs)) (hb : Bl (agAt H) kvs l) (e : t.ks = [(("add" : Str), ki)]) : ToldF (upd H a o) v t := by
  obtain ⟨x, d, kvd, h1, h2, h3, h4, h5⟩ := h
  have tp : Tups H (upd H a o) := fun b ys z => by rw [upd_ne (fun y => by rw [y, ha] at z; cases z)]; exact z
  refine ⟨x, d, kvd, h1, tp _ _ h2, ?_, h4.mono tp, h5⟩
  rw [upd_ne]
  · exact h3
  · rintro rfl
    rw [ha] at h3
    have ek := HO.dK.inj (Option.some.inj h3)
    subst ek
    rw [e] at h4
    cases kvs with
    | nil => exact h4.elim
    | cons p r =>
      obtain ⟨⟨k1, _⟩, _⟩ := h4
      obtain ⟨q, _, k2, _⟩ := hb.at (i := 0) (x := p) rfl
      rw [k1] at k2
      cases k2
theorem prs_any {H : Hp} {a : Addr} {kvs : List (Key × V)} {o : HO} (ha : H a = some (.dK kvs)) : Prs H (upd H a o) := fun r is ⟨xs, g1, g2⟩ =>
  ⟨xs, by rw [upd_ne (ne_of g1 ha (by intro z; cases z))]; exact g1, g2.mono fun _ _ z => InAt.mono (fun c ys e => by rw [upd_ne (fun z => by rw [z, ha] at e; cases e)]; exact e) z⟩
theorem Bl.tail {α β : Type} {R : α → β → Prop} {x : α} {d : β} {xs : List α} {ds : List β} (h : Bl R (x :: xs) (d :: ds)) : Bl R xs ds := ⟨Nat.succ.inj h.1, fun i y e a b => h.2 (i + 1) y e a b⟩
theorem Bl.cons {α β : Type} {R : α → β → Prop} {x : α} {d : β} {xs : List α} {ds : List β} (r : R x d) (h : Bl R xs ds) : Bl R (x :: xs) (d :: ds) := by
  refine ⟨congrArg Nat.succ h.1, fun i y e a b => ?_⟩
  cases i with
  | zero => cases a; cases b; exact r
  | succ i => exact h.2 i y e a b
theorem pairedM {α β : Type} {F G : α → β → Prop} (f : ∀ a b, F a b → G a b) : ∀ {xs : List α} {ys : List β}, Paired F xs ys → Paired G xs ys
  | _, _, .nil => .nil
  | _, _, .cons h t => .cons (f _ _ h) (pairedM f t)
theorem mergeK_new : ∀ {more acc : List (Key × V)}, ((acc ++ more).map (·.1)).Nodup → mergeK acc more = acc ++ more
  | [], acc, _ => by rw [List.append_nil]; rfl
  | p :: r, acc, h => by
    have e : mergeK acc (p :: r) = mergeK (putK acc p.1 p.2) r := rfl
    have hn : valV acc p.1 = none := valV_none fun hm => by
      rw [List.map_append, List.map_cons] at h
      exact (List.nodup_append.mp h).2.2 _ hm _ List.mem_cons_self rfl
    have ea : acc ++ [(p.1, p.2)] ++ r = acc ++ p :: r := by rw [List.append_assoc]; rfl
    rw [e, putK_new _ hn, mergeK_new (by rw [ea]; exact h), ea]
theorem mergeK_snoc (acc more : List (Key × V)) (p : Key × V) : mergeK acc (more ++ [p]) = putK (mergeK acc more) p.1 p.2 := by
  unfold mergeK
  rw [List.foldl_append]
  rfl
theorem putK_head {k : Key} {v u : V} {r : List (Key × V)} (h : k ∉ r.map (·.1)) : putK ((k, v) :: r) k u = (k, u) :: r := by
  unfold putK
  rw [if_pos (by rw [List.any_cons, decide_eq_true rfl, Bool.true_or]), List.map_cons, if_pos rfl]
  congr 1
  conv => rhs; rw [← List.map_id r]
  refine List.map_congr_left fun p hp => ?_
  rw [if_neg (show ¬ p.1 = k from fun z => h (by rw [← z]; exact List.mem_map_of_mem hp))]
  rfl
structure SL (P : Program) (w : World) (C CC PT : Addr) (H : Hp) (tl pL ca gL q ag : Addr) (B pl : Nat) (vs cs : List V) (ds : List Ch) (d : Ch) : Prop where
  ls : LS P w C PT H tl pL ca B vs cs ds
  hd : ds[pl]? = some d
  gd : d.good = true
  mn : ∀ e ∈ ds, e.pr < d.pr → e.good = false
  ch : ChAt CC H q (pl : Int) ag
  ag : DAg H ag (agL ds (cheapD ds d))
section
variable {H H' : Hp} {tl pL ca gL q ag : Addr} {B B' pl : Nat} {vs cs : List V} {ds : List Ch} {d : Ch}
theorem SL.step (h : SL P w C CC PT H tl pL ca gL q ag B pl vs cs ds d) (b : ExtC ds H H') (c : Chs P w C H' B' cs ds) (t : LamX.Tabs (tabT PT) H') : SL P w C CC PT H' tl pL ca gL q ag B' pl vs cs ds d :=
  ⟨h.ls.step b c t, h.hd, h.gd, h.mn, let ⟨dx, z⟩ := h.ch; ⟨dx, h.ls.chs.extC_at b z (fun φ z => by cases z) (fun ps z => by cases z)⟩,
    let ⟨kvs, z1, z2⟩ := h.ag; ⟨kvs, h.ls.chs.extC_at b z1 (fun φ z => by cases z) (fun ps z => by cases z), z2.mono fun _ _ z => z.mono (h.ls.chs.extC_prs b)⟩⟩
theorem SL.same (h : SL P w C CC PT H tl pL ca gL q ag B pl vs cs ds d) (s : Same H H') (hB : B ≤ B') : SL P w C CC PT H' tl pL ca gL q ag B' pl vs cs ds d := h.step (s.ca (ds := ds)).extC (h.ls.chs.same s hB) (h.ls.tab.ext s)
/-- each program that is told against a cheaper one is such, and wrong -/
theorem SL.prog (h : SL P w C CC PT H tl pL ca gL q ag B pl vs cs ds d) {x : Nat × List Ins} (hx : x ∈ agL ds (cheapD ds d)) : ∃ e, ds[x.1]? = some e ∧ e.good = false ∧ e.r = .inl x.2 ∧ PlOk e.ti x.2 ∧ rightB e.ti x.2 = false := by
  unfold agL at hx
  obtain ⟨i, hi, rfl⟩ := List.mem_map.mp hx
  obtain ⟨e, he, hlt⟩ := cheap_mem hi
  have hm := List.mem_of_getElem? he
  have hg := h.mn e hm hlt
  obtain ⟨is, hr⟩ : ∃ is, e.r = .inl is := by
    unfold Ch.good at hg
    cases hdr : e.r with
    | inl is => exact ⟨is, rfl⟩
    | inr fs =>
      rw [hdr] at hg
      cases hg
  have ep : progL ds i = is := by
    unfold progL
    rw [he]
    show (match e.r with | .inl is => is | .inr _ => []) = is
    rw [hr]
  have w2 := (h.ls.chs.ok e hm).wr is hr
  exact ⟨e, he, hg, by rw [hr]; exact congrArg Sum.inl ep.symm, by show PlOk e.ti (progL ds i); rw [ep]; exact w2.1, by show rightB e.ti (progL ds i) = false; rw [ep]; exact w2.2⟩
theorem SL.show (h : SL P w C CC PT H tl pL ca gL q ag B pl vs cs ds d) : showB ds d (agL ds (cheapD ds d)) = true := by
  unfold showB
  have e1 : (agL ds (cheapD ds d)).map (·.1) = cheapL (ds.map (·.pr)) d.pr (ds.map (·.pr)).length := by
    rw [agL_fst]
    rfl
  have e2 : (agL ds (cheapD ds d)).any (rightAt ds) = false := by
    rw [List.any_eq_false]
    intro x hx
    obtain ⟨e, he, _, _, _, hr⟩ := h.prog hx
    unfold rightAt
    rw [he]
    show ¬ rightB e.ti x.2 = true
    rw [hr]
    exact Bool.false_ne_true
  rw [e2, h.gd, decide_eq_true e1]
  rfl
theorem SL.len (h : SL P w C CC PT H tl pL ca gL q ag B pl vs cs ds d) : (agL ds (cheapD ds d)).length ≤ 4 := by
  unfold agL
  rw [List.length_map]
  have := cheapL_len (ds.map (·.pr)) d.pr (ds.map (·.pr)).length
  have h4 := h.ls.chs.len
  have hk : (ds.map (·.pr)).length = ds.length := List.length_map _
  unfold cheapD
  omega
end
/-- the try, and what follows a BadPipe -/
def tTry (P : Program) (w : World) (K : PySem.W.Frag) (C CB CC PT : Addr) : TS := fun D σ H => tSeq (tDrop (tCallS (spCR P w C CB CC PT) (WE (wAs K (.ref CB) 13 (fun ea cls d => tIfS (tTest (tOp (fun x y H Q => y = .non ∧ Q (.bl (!decide (x = .non))) H) (tXf ea cls d CB "name" (tVar 13)) (tC .non))) (tRet (tC (.bl false))) tNext) (fun _ _ _ _ => False) D)) (tCons (tVar 12) tNil))) (tRet (tC (.bl false))) D σ H
theorem ok_law {f f1 f2 f3 f4 f5 f6 f7 fH fS tR tW : Addr} {fd d1 d2 d3 d4 d5 d6 d7 dH dS tdR tdW : FuncData} (F : Fun K "law" "law" sLaw f fd) (L : LawF P w K mg base C CB CC CR CW PT f1 f2 f3 f4 f5 f6 f7 fH fS tR tW d1 d2 d3 d4 d5 d6 d7 dH dS tdR tdW) :
    FnOk P w K mg base CX0 7 f fd ["script"] (spLaw K PT) := by
  refine F.ok scLaw (fun vs H Q E h => ?_) (fun cdv A outer s H vs Q E hr h => ?_)
  · obtain ⟨a, ns, rfl, _⟩ := h
    rfl
  · obtain ⟨a, ns, rfl, hS, hlen, hT, k⟩ := h
    have nd := scLaw.nd
    have T := L.T
    have hu := hu_of hr
    have hr1 : Room 1 _ := hr.mono (by decide)
    have hr2 : Room 2 _ := hr.mono (by decide)
    have hr3 : Room 3 _ := hr.mono (by decide)
    have hr4 : Room 4 _ := hr.mono (by decide)
    have hr5 : Room 5 _ := hr.mono (by decide)
    refine ⟨_, Evl.pss_cut (ps_setLc (i := 1) (own := [("turn", 14)]) (g := gName 14) (by rfl) nd rfl rfl (sw_true rfl rfl rfl (by decide +kernel)) (pi_range1 rfl T.range (pa_cons (pe_op op_add pe_int (pcl L.Draw hr1 (pa_cons (pv 0) (pa_cons pe_int (pa_cons pe_int pa_nil))))) pa_nil)) (blkOk_by (N := nLaw) (sc := defScope sLaw) (by decide +kernel))
            (fun _ _ _ _ _ => pg_name (i := 14) nd rfl (.inl rfl)) (fun _ _ _ _ _ => pts_nil)
            (fun _ _ _ _ _ => pcl L.Set hr2 (pa_cons (pv 0) (pa_cons (pe_op op_mul pe_int (pv 14)) pa_nil))))
      (Evl.pss_cut (ps_setLc (i := 1) (own := [("one", 15)]) (g := gName 15) (by rfl) nd rfl rfl (sw_true rfl rfl rfl (by decide +kernel)) (pi_list (pv 1)) (blkOk_by (N := nLaw) (sc := defScope sLaw) (by decide +kernel))
            (fun _ _ _ _ _ => pg_name (i := 15) nd rfl (.inl rfl)) (fun _ _ _ _ _ => pts_nil)
            (fun _ _ _ _ _ => ptupN (pa_cons pe_int (pa_cons (pe_callTy (dictPK K) (by rfl) T.dict (by decide +kernel) (pa_cons
                (pe_lock (pe_lc (own := [("row", 16)]) (g := gName 16) (by rfl) nd (pi_itemsN (pe_ix (ixT K) (pv 15) pe_int (fun _ _ => rfl))) (blkOk_by (N := nLaw) (sc := lawSc2) (by decide +kernel))
                  (fun _ _ _ _ _ => pg_name (i := 16) nd rfl (.inl rfl)) (fun _ _ _ _ _ => pts_one (pt_cmpR op_eq (pe_ix (ixT K) (pv 16) pe_int (fun _ _ => rfl)) pe_str (nomark _)))
                  (fun _ _ _ _ _ => pv 16))) pa_nil)) (pa_cons (pe_ix (ixT K) (pv 15) pe_int (fun _ _ => rfl)) (pa_cons (pe_ix (ixT K) (pv 15) pe_int (fun _ _ => rfl)) pa_nil))))))
      (Evl.pss_cut (ps_set (i := 3) nd rfl (.inr rfl) (pe_lc (own := [("at", 2)]) (g := gName 2) (by rfl) nd (pi_range1 rfl T.range (pa_cons (pe_callB call_len_seq (by rfl) T.len PySem.boot_len (pa_cons (pv 1) pa_nil)) pa_nil)) (blkOk_by (N := nLaw) (sc := defScope sLaw) (by decide +kernel))
            (fun _ _ _ _ _ => pg_name (i := 2) nd rfl (.inl rfl)) (fun _ _ _ _ _ => pts_nil)
            (fun _ _ _ _ _ => pcl L.Draw hr1 (pa_cons (pv 0) (pa_cons (pe_op op_add pe_int (pv 2)) (pa_cons pe_int pa_nil))))))
      (Evl.pss_cut (ps_setLc (i := 4) (own := [("price", 17), ("one", 15)]) (by rfl) nd rfl rfl (sw_true rfl rfl rfl (by decide +kernel)) (pi_zip (by rfl) L.zip (pa_cons (pv 3) (pa_cons (pv 1) pa_nil))) (blkOk_by (N := nLaw) (sc := defScope sLaw) (by decide +kernel))
            (fun _ _ _ _ _ => pgT2 K 17 15 nd) (fun _ _ _ _ _ => pts_nil)
            (fun _ _ _ _ _ => ptupN (pa_cons (pv 17) (pa_cons (pcl L.Pip hr (pa_cons (pv 15) pa_nil)) pa_nil))))
      (Evl.pss_cut (ps_par (i := 5) (j := 6) (by rfl) nd rfl rfl (by decide) rfl rfl (pa_cons (pclX L.Cp hr (pa_cons (pv 4) pa_nil)) (pa_cons
            (pe_lc (own := [("at", 2), ("price", 17), ("pipe", 18)]) (by rfl) nd (pi_enum (by rfl) T.enumerate (pa_cons (pv 4) pa_nil)) (blkOk_by (N := nLaw) (sc := defScope sLaw) (by decide +kernel))
              (fun _ _ _ _ _ => pgN3 K 2 17 18 nd)
              (fun _ _ _ _ _ => pts_one (pt_tru (pcl L.J hr5 (pa_cons (pv 18) pa_nil)) hr1 L.tR L.tW)) (fun _ _ _ _ _ => pv 2)) pa_nil)) (by rfl))
      (pss_cons (ps_if (pt_cmpR (eqDK K hr.units) (pv 6) (plst pa_nil) (nomark _)) (pss_one (ps_ret (pe_cmpR op_isN (pv 5) pe_non (nomark _)))) pss_nil)
      (pss_cons (ps_set (i := 7) nd rfl (.inr rfl) (pe_callB (cr_min rfl) (by rfl) L.min (by decide +kernel) (pa_cons
            (pe_lc (own := [("at", 2)]) (g := gName 2) (by rfl) nd (pi_list (pv 6)) (blkOk_by (N := nLaw) (sc := defScope sLaw) (by decide +kernel))
              (fun _ _ _ _ _ => pg_name (i := 2) nd rfl (.inl rfl)) (fun _ _ _ _ _ => pts_nil) (fun _ _ _ _ _ => pe_ix (ixL K) (pv 3) (pv 2) (fun _ _ => rfl))) pa_nil)))
      (Evl.pss_cut (ps_if (PW.pt (pw_or (pt_cmpR op_isN (pv 5) pe_non (nomark _)) (pw_or (pt_cmpR op_notIn_seq (pfd K (pv 5)) (pv 6) (by rfl))
            (pw_or (pt_cmpR op_ne (pe_ix (ixL K) (pv 3) (pfd K (pv 5)) (fun _ _ => rfl)) (pv 7) (nomark _))
            (pw_or1 (pt_not (pt_val (pe_meth (pv 5) L.TH.cl L.Sh.meth L.Sh.ok hr L.Sh.b .nil pass0 (pa_cons (pe_callTy call_tuple_of (by rfl) T.tuple (by decide +kernel) (pa_cons (pv 4) pa_nil)) pa_nil))))))))) (pss_one (ps_ret pe_bl)) pss_nil)
      (Evl.pss_cut (ps_if (pt_cmpR (neDK K hr.units) (pe_callTy (call_listD rfl) (by rfl) T.list (by decide +kernel) (pa_cons (pfd K (pv 5)) pa_nil))
            (pe_lc (own := [("at", 2)]) (g := gName 2) (by rfl) nd (pi_range1 rfl T.range (pa_cons (pe_callB call_len_seq (by rfl) T.len PySem.boot_len (pa_cons (pv 1) pa_nil)) pa_nil)) (blkOk_by (N := nLaw) (sc := defScope sLaw) (by decide +kernel))
              (fun _ _ _ _ _ => pg_name (i := 2) nd rfl (.inl rfl)) (fun _ _ _ _ _ => pts_one (pt_cmpR op_lt (pe_ix (ixL K) (pv 3) (pv 2) (fun _ _ => rfl)) (pv 7) (nomark _))) (fun _ _ _ _ _ => pv 2)) (nomark _)) (pss_one (ps_ret pe_bl)) pss_nil)
      (Evl.pss_cut (ps_lock (ps_for PassesOwn.never rfl (pi_items (pfd K (pv 5))) (pg_tup (by rfl) (pgs_cons (pg_name (i := 2) nd rfl (.inr rfl)) (pgs_cons (pg_name (i := 8) nd rfl (.inl rfl)) pgs_nil)))
            (pss_cons (ps_asg (pcl L.LY hr4 (pa_cons (pe_ix (ixL K) (pv 1) (pv 2) (fun _ _ => rfl)) (pa_cons (pv 8) pa_nil))) (pg_tup (by rfl) (pgs_cons (pg_name (i := 9) nd rfl (.inl rfl)) (pgs_cons (pg_name (i := 10) nd rfl (.inl rfl)) (pgs_cons (pg_name (i := 11) nd rfl (.inl rfl)) pgs_nil)))))
            (pss_one (ps_if (pt_cmpR (eqDK K hr.units) (ptup (pa_cons (pv 10) (pa_cons (pv 11) pa_nil))) (pcl L.LP hr1 (pa_cons (pe_ix (ixL K) (pv 1) (pv 2) (fun _ _ => rfl)) (pa_cons (pv 8) pa_nil))) (nomark _)) (pss_one (ps_ret pe_bl)) pss_nil)))))
      (Evl.pss_cut (ps_if (pt_cmpR (op_neE (Nat.lt_of_succ_lt hu)) (pfd K (pv 5)) pe_dnewK (nomark _))
            (pss_cons (ps_set (i := 2) nd rfl (.inr rfl) (pe_ix (ixL K) (pe_callTy (call_listD rfl) (by rfl) T.list (by decide +kernel) (pa_cons (pfd K (pv 5)) pa_nil)) pe_int (fun _ _ => rfl)))
            (pss_cons (ps_if (PW.pt (pw_or (pt_val (pe_meth (pe_make L.MH L.FH hr3 (by rfl) L.TH.mgC L.bH .nil pass0 (pa_cons (pfd K (pv 5)) (pa_cons
                    (pe_callTy (dictPK K) (by rfl) T.dict (by decide +kernel) (pa_cons
                      (pe_lock (pe_lc (own := [("row", 16)]) (g := gName 16) (by rfl) nd (pi_itemsN (pfd K (pv 5))) (blkOk_by (N := nLaw) (sc := defScope sLaw) (by decide +kernel))
                        (fun _ _ _ _ _ => pg_name (i := 16) nd rfl (.inl rfl)) (fun _ _ _ _ _ => pts_one (pt_cmpR op_ne (pe_ix (ixT K) (pv 16) pe_int (fun _ _ => rfl)) (pv 2) (nomark _)))
                        (fun _ _ _ _ _ => pv 16))) pa_nil)) pa_nil))) L.TH.cl L.Sh.meth L.Sh.ok hr L.Sh.b .nil pass0 (pa_cons (pv 4) pa_nil)))
                  (pw_or1 (pt_val (pe_meth (pe_make L.MH L.FH hr3 (by rfl) L.TH.mgC L.bH .nil pass0 (pa_cons (pv 2) (pa_cons pe_dnewK pa_nil))) L.TH.cl L.Sh.meth L.Sh.ok hr L.Sh.b .nil pass0 (pa_cons (pv 4) pa_nil)))))) (pss_one (ps_ret pe_bl)) pss_nil)
            (pss_one (ps_if (pt_val (pe_meth (pe_make L.MH L.FH hr3 (by rfl) L.TH.mgC L.bH .nil pass0 (pa_cons (pfd K (pv 5)) (pa_cons
                    (pe_callTy (dictPK K) (by rfl) T.dict (by decide +kernel) (pa_cons
                      (pe_op op_cat (LiI.pe_listItems (by rfl) (pfd K (pv 5)) (by rfl) T.list (by decide +kernel)) (plst (pa_cons (ptup (pa_cons (pv 2) (pa_cons (plst pa_nil) pa_nil))) pa_nil))) pa_nil)) pa_nil))) L.TH.cl L.Sh.meth L.Sh.ok hr L.Sh.b .nil pass0 (pa_cons (pv 4) pa_nil))) (pss_one (ps_ret pe_bl)) pss_nil)))) pss_nil)
      (Evl.pss_cut (ps_for PassesOwn.never rfl (pi_tup (ptup (pa_cons (plst (pa_cons (ptup (pa_cons pe_int (pa_cons pe_int pa_nil))) pa_nil)) (pa_cons
              (plst (pa_cons (ptup (pa_cons pe_bl (pa_cons (pe_ix (ixT K) (pe_ix (ixL K) (pv 4) pe_int (fun _ _ => rfl)) pe_int (fun _ _ => rfl)) pa_nil))) pa_nil)) (pa_cons pe_non (pa_cons
              (plst (pa_cons (pe_ix (ixT K) (pe_ix (ixL K) (pv 4) pe_int (fun _ _ => rfl)) pe_int (fun _ _ => rfl)) pa_nil)) pa_nil)))))) (pg_name (i := 12) nd rfl (.inl rfl))
            (pss_one (ps_try_as (i := 13) (tb := fun W => tSeq (tDrop (tCallS (spCR P w C CB CC PT) (WE W) (tCons (tVar 12) tNil))) (tRet (tC (.bl false))))
              (ts := fun ea cls d => tIfS (tTest (tOp (fun x y H Q => y = .non ∧ Q (.bl (!decide (x = .non))) H) (tXf ea cls d CB "name" (tVar 13)) (tC .non))) (tRet (tC (.bl false))) tNext) (Wout := fun _ _ _ _ => False) rfl rfl nd rfl rfl ⟨rfl, by decide, Or.inl L.mgB⟩ takes0
              (fun W pn xe tk _ => pss_cons (ps_expr (by exact (pe_callS L.Cp.ok hr rfl L.Cp.mgf L.Cp.kp L.Cp.b (fun σ => passAt tk σ) (by exact (pa_cons (pv 12) pa_nil))))) (pss_one (ps_ret (by exact pe_bl))))
              (fun ea oe cls d pn hz hf => pss_one (ps_if (by exact (pt_cmpR op_notN (pe_xf L.xf L.noN hz hf (pv 13)) pe_non (nomark _))) (pss_one (ps_ret (by exact pe_bl))) pss_nil)))))
      (pss_one (ps_ret (pe_cmpR op_isN (pclX L.Cp hr (pa_cons (plst pa_nil) pa_nil)) pe_non (nomark _)))))))))))))))
      , ?_⟩
    -- settings
    refine ⟨fun σ' H' => ∃ tl vs ts, σ' = σX a (some (.ref tl)) none none none none none none none none none none none none ∧ Same H H' ∧ H' tl = some (.lst vs) ∧ Al (RawT H') vs ts ∧ 1 ≤ vs.length ∧ vs.length ≤ 4, ?_, ?_⟩
    · refine ⟨_, rfl, a, ns, 400, 4, rfl, hS, hlen, by decide, by decide, by decide, by decide, fun H1 r s1 r0 r4 => ⟨_, _, rfl, rfl, 1 + r, rfl, by omega, by omega, fun D nD => lc_range (n := (1 + r).toNat) (fun j H' => Same H1 H' ∧ ∃ vs ts, H' D = some (.lst vs) ∧ Al (RawT H') vs ts ∧ vs.length = j)
        ⟨same_upd nD, [], [], upd_same, Al.nil, rfl⟩ ?_ ?_⟩⟩
      · rintro j H2 hj ⟨s2, vs, ts, hD, hal, hl⟩
        rw [Int.zero_add]
        have s02 := s1.trans s2
        refine ⟨rfl, ?_⟩
        refine ⟨_, rfl, _, rfl, _, _, rfl, rfl, .inl ⟨by decide, by decide⟩, a, ns, 50 * (j : Int), rfl, s02.seq hS, hlen, by omega, by omega, fun v H3 t s3 hF t1 t2 hl3 => ?_⟩
        have hD3 := s3 _ _ hD
        refine ⟨vs, hD3, szl (by omega), (s2.trans s3).mut nD, vs ++ [v], ts ++ [t], upd_same, Al.snocM hal (fun x d q => ⟨(q.1.same s3).updL hD3, q.2⟩) ⟨hF.updL hD3, hl3⟩, by rw [List.length_append, hl]; rfl⟩
      · rintro H2 ⟨s2, vs, ts, hD, hal, hl⟩
        exact ⟨D, vs, ts, rfl, s1.trans s2, hD, hal, by omega, by omega⟩
    -- the one kind
    rintro σ1 H1 ⟨tl, vs, ts, rfl, s1, htl, hal, l1, l4⟩
    refine ⟨fun σ' H' => ∃ tl vs qs, σ' = σX a (some (.ref tl)) none none none none none none none none none none none none ∧ Same H H' ∧ H' tl = some (.lst vs) ∧ Al (RawO H') vs qs ∧ 1 ≤ vs.length ∧ vs.length ≤ 4, ?_, ?_⟩
    · refine ⟨_, rfl, tl, rfl, ⟨_, SqL.of htl⟩, fun D nD => lc_list (K := K) (xs := vs) (fun j H' => Same H1 H' ∧ ∃ ws qs, H' D = some (.lst ws) ∧ Al (RawO H') ws qs ∧ ws.length = j)
        ⟨same_upd nD, [], [], upd_same, Al.nil, rfl⟩ (fun j H' _ hh => SqL.of (hh.1 _ _ htl)) ?_ ?_⟩
      · rintro j y H2 hj ⟨s2, ws, qs, hD, hals, hl⟩
        have hjl : j < vs.length := (List.getElem?_eq_some_iff.mp hj).1
        obtain ⟨t, ht, hraw⟩ := hal.at hj
        obtain ⟨⟨ta, d, kvs, rfl, hta, hd, hkv, kok⟩, hl3⟩ := hraw.same s2
        obtain ⟨ki, rest, eks, hne, kik, hrl⟩ := kok.first
        rw [eks] at hkv hl3
        obtain ⟨⟨k0, v0⟩, kvr, rfl⟩ : ∃ p r, kvs = p :: r := by
          cases kvs with
          | nil => exact hkv.elim
          | cons p r => exact ⟨p, r, rfl⟩
        obtain ⟨hk0, hkr⟩ := id hkv
        have ek0 : k0 = (Sum.inr ("add" : Str) : Key) := hk0.1
        subst ek0
        refine ⟨rfl, ?_⟩
        refine ⟨d, _, hd, True.intro, fun od => ?_⟩
        have hf : (upd H2 d (.frz od (.dK ((Sum.inr ("add" : Str), v0) :: kvr)))) d = some (.frz od (.dK ((Sum.inr ("add" : Str), v0) :: kvr))) := upd_same
        have hta' : (upd H2 d (.frz od (.dK ((Sum.inr ("add" : Str), v0) :: kvr)))) ta = some (.tup [.int t.regs, .ref d, .bl t.ho, .bl t.od]) := by rw [upd_ne (fun z => by rw [z, hd] at hta; cases hta)]; exact hta
        generalize hHf : upd H2 d (.frz od (.dK ((Sum.inr ("add" : Str), v0) :: kvr))) = Hf at hf hta'
        refine ⟨_, rfl, ta, _, 1, _, rfl, rfl, SqT.of hta', rfl, d, od, _, rfl, hf, fun D2 nD2 => lc_it (walk_itemsN (d := d) (o := od) (kvs := (Sum.inr ("add" : Str), v0) :: kvr)) (fun i G => Same Hf G ∧ ((i = 0 ∧ G D2 = some (.lst [])) ∨ (0 < i ∧ ∃ p, G D2 = some (.lst [.ref p]) ∧ G p = some (.tup [.str "add", v0]))))
          ⟨same_upd nD2, .inl ⟨rfl, upd_same⟩⟩ (fun i G _ hh => hh.1 _ _ hf) ?_ ?_⟩
        · rintro i y2 G G' hi ⟨sG, hcase⟩ ⟨T0, k, v, hkvi, rfl, nT, rfl⟩
          have sT := same_upd (o := HO.tup [kV k, v]) nT
          obtain ⟨q, hq, hka⟩ := hkv.at hkvi
          have ek : k = (Sum.inr q.1 : Key) := hka.1
          subst ek
          refine ⟨rfl, ?_⟩
          refine ⟨_, rfl, T0, _, 0, _, rfl, rfl, SqT.of upd_same, rfl, rfl, _, rfl, ?_⟩
          by_cases h0 : i = 0
          · subst h0
            obtain ⟨e1, e2⟩ : (Sum.inr ("add" : Str) : Key) = Sum.inr q.1 ∧ v0 = v := by
              have := Option.some.inj hkvi
              exact ⟨congrArg Prod.fst this, congrArg Prod.snd this⟩
            have e1' := Sum.inr.inj e1
            subst e2
            rw [← e1'] at sT ⊢
            rw [show decide (kV (Sum.inr ("add" : Str) : Key) = V.str "add") = true from decide_eq_true rfl]
            rcases hcase with ⟨_, hG⟩ | ⟨hlt, _⟩
            · refine iteT ⟨_, rfl, [], sT _ _ hG, szl (by show 0 ≤ 100000; decide), (sG.trans sT).mut nD2, .inr ⟨Nat.succ_pos _, T0, upd_same, ?_⟩⟩
              rw [upd_ne (fun z => by rw [z, hG] at nT; cases nT)]
              exact upd_same
            · exact absurd hlt (Nat.lt_irrefl _)
          · have hqr : q ∈ rest := by
              obtain ⟨i', rfl⟩ := Nat.exists_eq_succ_of_ne_zero h0
              have : rest[i']? = some q := hq
              exact List.mem_of_getElem? this
            have hqn := hne q hqr
            rw [show decide (kV (Sum.inr q.1 : Key) = V.str "add") = false from decide_eq_false (fun z => hqn (V.str.inj z))]
            refine iteF ⟨sG.trans sT, ?_⟩
            rcases hcase with ⟨hz, _⟩ | ⟨hlt, p, g1, g2⟩
            · exact absurd hz h0
            · exact .inr ⟨Nat.succ_pos _, p, sT _ _ g1, sT _ _ g2⟩
        · rintro G ⟨sG, hcase⟩
          refine ⟨sG _ _ hf, ?_⟩
          rcases hcase with ⟨hz, _⟩ | ⟨_, p, g1, g2⟩
          · cases hz
          have sH : Same H2 (upd G d (.dK ((Sum.inr ("add" : Str), v0) :: kvr))) := unl hd (by rw [hHf]; exact sG)
          have np : ∀ {b : Addr} {o : HO}, G b = some o → (∀ u, o ≠ .frz od u) → b ≠ d := fun {b o} e hn z => by
            rw [z, sG _ _ hf] at e
            exact hn _ (Option.some.inj e).symm
          have g1' : (upd G d (.dK ((Sum.inr ("add" : Str), v0) :: kvr))) D2 = some (.lst [.ref p]) := by rw [upd_ne (np g1 (fun u z => by cases z))]; exact g1
          have g2' : (upd G d (.dK ((Sum.inr ("add" : Str), v0) :: kvr))) p = some (.tup [.str "add", v0]) := by rw [upd_ne (np g2 (fun u z => by cases z))]; exact g2
          generalize upd G d (.dK ((Sum.inr ("add" : Str), v0) :: kvr)) = H3 at sH g1' g2'
          refine ⟨D2, [p], [((Sum.inr ("add" : Str) : Key), v0)], rfl, SqL.of g1', .cons (SqT.of g2') .nil, fun pd npd => ?_⟩
          have s4 := same_upd (o := HO.dK (mergeK [] [((Sum.inr ("add" : Str) : Key), v0)])) npd
          have hpd : (upd H3 pd (.dK (mergeK [] [((Sum.inr ("add" : Str) : Key), v0)]))) pd = some (.dK [((Sum.inr ("add" : Str) : Key), v0)]) := upd_same
          generalize upd H3 pd (.dK (mergeK [] [((Sum.inr ("add" : Str) : Key), v0)])) = H4 at s4 hpd
          have s24 := sH.trans s4
          refine ⟨_, rfl, ta, _, 2, _, rfl, rfl, SqT.of (s24 _ _ hta), rfl, _, rfl, ta, _, 3, _, rfl, rfl, SqT.of (s24 _ _ hta), rfl, ?_⟩
          refine rd_t4 fun pt H5 s5 hpt => ?_
          have s25 := s24.trans s5
          have hD5 := s25 _ _ hD
          have hro : RawO H5 (.ref pt) (ki, t.ho, t.od) := ⟨⟨pt, pd, _, rfl, hpt, s5 _ _ hpd, ⟨⟨rfl, (let ⟨r, e1, e2⟩ := hk0.2; ⟨r, e1, s25 _ _ e2⟩)⟩, True.intro⟩, KtOk.one kik⟩, hl3 _ List.mem_cons_self⟩
          refine ⟨ws, hD5, szl (by omega), (s2.trans s25).mut nD, ws ++ [.ref pt], qs ++ [(ki, t.ho, t.od)], upd_same, Al.snoc (hals.mono fun x q h => ⟨(h.1.same s25).updL hD5, h.2⟩) ⟨hro.1.updL hD5, hro.2⟩, by rw [List.length_append, hl]; rfl⟩
      · rintro H2 ⟨s2, ws, qs, hD, hals, hl⟩
        exact ⟨D, ws, qs, rfl, s1.trans s2, hD, hals, by omega, by omega⟩
    -- prices
    clear htl hal l1 l4 ts vs tl s1 H1
    rintro σ1 H1 ⟨tl, vs, qs, rfl, s1, htl, hal, l1, l4⟩
    refine ⟨fun σ' H' => ∃ (pL : Addr) (prs : List Int), σ' = σX a (some (.ref tl)) none (some (.ref pL)) none none none none none none none none none none ∧ Same H1 H' ∧ H' pL = some (.lst (prs.map V.int)) ∧ prs.length = vs.length, ?_, ?_⟩
    · refine ⟨_, rfl, tl, vs, rfl, .inl (SqL.of htl), (vs.length : Int), rfl, by omega, by omega, fun D nD => lc_range (n := (vs.length : Int).toNat) (fun j H' => Same H1 H' ∧ ∃ prs : List Int, H' D = some (.lst (prs.map V.int)) ∧ prs.length = j)
        ⟨same_upd nD, [], upd_same, rfl⟩ ?_ ?_⟩
      · rintro j H2 hj ⟨s2, prs, hD, hl⟩
        rw [Int.zero_add]
        refine ⟨rfl, ?_⟩
        refine ⟨_, rfl, _, rfl, _, _, rfl, rfl, a, ns, 410 + (j : Int), 4, rfl, (s1.trans s2).seq hS, hlen, by omega, by omega, by omega, by omega, fun H3 r s3 r0 r4 => ?_⟩
        refine ⟨_, s3 _ _ hD, by rw [List.length_map]; exact szl (by omega), (s2.trans s3).mut nD, prs ++ [r], by rw [upd_same, List.map_append]; rfl, by rw [List.length_append, hl]; rfl⟩
      · rintro H2 ⟨s2, prs, hD, hl⟩
        exact ⟨D, prs, rfl, s2, hD, by omega⟩
    -- choices
    rintro σ2 H2 ⟨pL, prs, rfl, s2, hpL, hpl⟩
    have htl2 := s2 _ _ htl
    have hal2 : Al (RawO H2) vs qs := hal.mono fun _ _ h => h.same s2
    refine ⟨fun σ' H' => ∃ (ca : Addr) (cs : List V) (ds : List Ch), σ' = σX a (some (.ref tl)) none (some (.ref pL)) (some (.ref ca)) none none none none none none none none none ∧ Same H2 H' ∧ H' ca = some (.lst cs) ∧ Chs P w C H' 0 cs ds ∧ ds.length = vs.length ∧
      (∀ (i : Nat) (d : Ch), ds[i]? = some d → prs[i]? = some d.pr ∧ ∃ q, qs[i]? = some q ∧ d.ti = tiOf q.1 q.2.1 q.2.2) ∧ ∀ d ∈ ds, LawOk d, ?_, ?_⟩
    · refine ⟨_, rfl, _, rfl, pL, tl, _, vs, rfl, SqL.of hpL, SqL.of htl2, fun D nD => lc_it (walk_zip (n := vs.length) (by rw [List.length_map, hpl, Nat.min_self])) (fun j H' => Same H2 H' ∧ ∃ (cs : List V) (ds : List Ch), H' D = some (.lst cs) ∧ Chs P w C H' 0 cs ds ∧ ds.length = j ∧
          (∀ (i : Nat) (d : Ch), ds[i]? = some d → prs[i]? = some d.pr ∧ ∃ q, qs[i]? = some q ∧ d.ti = tiOf q.1 q.2.1 q.2.2) ∧ ∀ d ∈ ds, LawOk d)
        ⟨same_upd nD, [], [], upd_same, ⟨Al.nil, List.nodup_nil, fun d hd => (by cases hd), Nat.zero_le _⟩, rfl, fun i d h => (by simp at h), fun d hd => (by cases hd)⟩ (fun j H' _ hh => ⟨SqL.of (hh.1 _ _ hpL), SqL.of (hh.1 _ _ htl2)⟩) ?_ ?_⟩
      · rintro j y G G' hj ⟨sG, cs, ds, hD, hch, hdl, hdp, hdo⟩ ⟨T0, x, z, rfl, nT, rfl, ex, ez⟩
        obtain ⟨pr, hpr, rfl⟩ := map_at ex
        obtain ⟨q, hq, hraw⟩ := hal2.at ez
        have sT := same_upd (o := HO.tup [V.int pr, z]) nT
        have hr' := hraw.same (sG.trans sT)
        have kik : KiOk q.1 := by
          obtain ⟨⟨_, _, _, _, _, _, _, hk⟩, _⟩ := id hr'
          exact hk.ok _ List.mem_cons_self
        obtain ⟨r, hlo⟩ := lawOk_of kik hraw.2 q.2.1 q.2.2
        refine ⟨T0, _, rfl, SqT.of upd_same, rfl, _, _, rfl, _, _, rfl, rfl, rfl, ?_⟩
        refine ⟨_, rfl, _, rfl, z, tiOf q.1 q.2.1 q.2.2, rfl, hr'.1, by show (1 : Int) ≤ 1; decide, by show (1 : Int) ≤ 4; decide, fun G2 p kdA c sP hp hk hc hcn => ?_⟩
        refine rd_t2 fun pt G3 s3 hpt => ?_
        have sA := (sT.trans sP).trans s3
        have hD3 := sA _ _ hD
        have cn : ∀ e ∈ ds, e.c ≠ c := fun e he ze => by
          obtain ⟨xs, hx, _⟩ := hch.ext he
          have := sT _ _ hx.at_
          rw [ze, hcn] at this
          cases this
        obtain ⟨dx, hp'⟩ := hp
        have new : ChH P w C G3 0 (.ref pt) ⟨pr, tiOf q.1 q.2.1 q.2.2, q.1, p, kdA, c, r⟩ := ⟨⟨pt, rfl, hpt⟩, ⟨dx, s3 _ _ hp'⟩, hk.same s3, [], hc.same s3, Nat.le_refl 0⟩
        have hdl4 : ds.length < 4 := by rw [hdl]; omega
        refine ⟨cs, hD3, (by rw [hch.al.1, hdl]; exact szl (by omega)), (sG.trans sA).mut nD, cs ++ [.ref pt], ds ++ [⟨pr, tiOf q.1 q.2.1 q.2.2, q.1, p, kdA, c, r⟩], upd_same, ((hch.same sA (Nat.le_refl 0)).snoc new cn (hlo pr p kdA c).ch hdl4).updLst hD3, by rw [List.length_append, hdl]; rfl, fun i d hd => ?_, fun d hd => ?_⟩
        · by_cases hi : i < ds.length
          · rw [List.getElem?_append_left hi] at hd
            exact hdp i d hd
          · rw [List.getElem?_append_right (by omega)] at hd
            have hi0 : i - ds.length = 0 := by
              have := (List.getElem?_eq_some_iff.mp hd).1
              simp at this
              omega
            rw [hi0] at hd
            cases hd
            have hij : i = j := by omega
            subst hij
            exact ⟨hpr, q, hq, rfl⟩
        · rcases List.mem_append.mp hd with hd | hd
          · exact hdo d hd
          · rw [List.mem_singleton.mp hd]; exact hlo pr p kdA c
      · rintro G ⟨sG, cs, ds, hD, hch, hdl, hdp, hdo⟩
        exact ⟨D, cs, ds, rfl, sG, hD, hch, hdl, hdp, hdo⟩
    -- found, good
    rintro σ3 H3 ⟨ca, cs, ds, rfl, s3, hca, hch, hdl, hdp, hdo⟩
    have hpr : prs = ds.map (·.pr) := by
      refine List.ext_getElem? fun i => ?_
      rw [List.getElem?_map]
      cases e : ds[i]? with
      | none =>
        have := List.getElem?_eq_none_iff.mp e
        rw [List.getElem?_eq_none (by omega)]
        rfl
      | some d => exact (hdp i d e).1
    have ls3 : LS P w C PT H3 tl pL ca 0 vs cs ds := by
      refine ⟨s3 _ _ htl2, ⟨hdl.symm, fun i v d hv hd => ?_⟩, by rw [s3 _ _ hpL, hpr, List.map_map]; rfl, hca, hch, hT.ext ((s1.trans s2).trans s3), hdo, by omega⟩
      obtain ⟨q, hq, e⟩ := (hdp i d hd).2
      rw [e]
      exact (hal2.2 i v q hv hq).1.same s3
    clear hca hch hdp hdo hpr hal2 htl2 hpL hpl
    refine ⟨fun σ' H' => ∃ v gL, σ' = σX a (some (.ref tl)) none (some (.ref pL)) (some (.ref ca)) (some v) (some (.ref gL)) none none none none none none none ∧ LS P w C PT H' tl pL ca 4800 vs cs ds ∧ CFound CC H' v ds ∧ H' gL = some (.lst (nI (goodL ds))), ?_, ?_⟩
    · refine ⟨_, rfl, ?_⟩
      dsimp only [tNil, List.append_nil]
      refine cr_ok ls3.chl ls3.chs (by decide) ls3.tab fun H5 v ec ch5 T5 hv => ?_
      have ls5 := ls3.step ec ch5 T5
      have hdl4 : ds.length ≤ 4 := ch5.len
      refine ⟨_, rfl, ca, cs, rfl, SqL.of ls5.chl, fun D nD => lc_it (walk_enum (xs := cs)) (fun j G => ExtC ds H5 G ∧ Chs P w C G (2400 + 600 * j) cs ds ∧ LamX.Tabs (tabT PT) G ∧ G D = some (.lst (nI ((List.range j).filter (goodAt ds)))))
        ⟨((same_upd nD).ca (ds := ds)).extC, ch5.same (same_upd nD) (by omega), T5.ext (same_upd nD), upd_same⟩ (fun j G _ hh => SqL.of (ch5.extC_at hh.1 ls5.chl (fun φ z => by cases z) (fun ps z => by cases z))) ?_ ?_⟩
      · rintro j y G G' hj ⟨ec6, ch6, T6, hD⟩ ⟨T0, x1, x2, rfl, nT, rfl, e1, e2⟩
        cases e1
        have sT := same_upd (o := HO.tup [V.int (j : Nat), x2]) nT
        have hT0 : (upd G T0 (HO.tup [V.int (j : Nat), x2])) T0 = some (.tup [.int (j : Nat), x2]) := upd_same
        have ch7 := ch6.same sT (Nat.le_refl _)
        have T7 := T6.ext sT
        have ec7 := ec6.trans (sT.ca (ds := ds)).extC
        have hD7 := sT _ _ hD
        generalize upd G T0 (HO.tup [V.int (j : Nat), x2]) = G7 at sT hT0 ch7 T7 ec7 hD7
        obtain ⟨e, he, qx⟩ := ch7.al.at e2
        obtain ⟨ta, rfl, hta⟩ := qx.tup
        obtain ⟨xs, hc, hxs⟩ := qx.ca
        have eok := ls5.chs.ok e (List.mem_of_getElem? he)
        have hjl : j < ds.length := (List.getElem?_eq_some_iff.mp he).1
        have eg : goodAt ds j = e.good := by
          unfold goodAt
          rw [he]
        refine ⟨T0, _, rfl, SqT.of hT0, rfl, _, _, rfl, _, _, rfl, ta, _, rfl, SqT.of hta, rfl, _, _, rfl, _, _, rfl, rfl, rfl, rfl, ?_⟩
        refine ⟨_, rfl, e.ti, e.ki, eok.one, eok.ko, e.p, e.kdA, e.c, xs, e.r, rfl, qx.pi, qx.kd, hc, by rw [eok.one.r]; decide, by rw [eok.one.r]; decide, Nat.le_refl 2, by omega, eok.jg, fun q8 H8 xs' bt hc' hl' jat => ?_⟩
        obtain ⟨ch8, cb8⟩ := ch7.step (B' := 2400 + 600 * (j + 1)) he bt hc' (by omega) (by omega)
        have T8 := ch7.tabs cb8 T7
        have ec8 := ec7.trans cb8.extC
        have hD8 := cb8 _ _ (ch7.ne hD7 (fun φ z => by cases z)) hD7
        refine ⟨e.good, ?_, ?_⟩
        · unfold Ch.good
          cases hdr : e.r with
          | inl is =>
            rw [hdr] at jat
            obtain ⟨dx6, l6, h6, _⟩ := jat
            exact ⟨q8, dx6, _, rfl, .inr ⟨rfl, h6⟩⟩
          | inr fs =>
            rw [hdr] at jat
            obtain ⟨dx6, l6, zs6, h6, _⟩ := jat
            exact ⟨q8, dx6, _, rfl, .inl ⟨rfl, h6⟩⟩
        have er : (List.range (j + 1)).filter (goodAt ds) = (List.range j).filter (goodAt ds) ++ (if e.good then [j] else []) := by
          rw [List.range_succ, List.filter_append]
          congr 1
          rw [List.filter_cons, List.filter_nil, eg]
        cases hgd : e.good with
        | true =>
          rw [hgd, if_pos rfl] at er
          refine iteT ⟨_, rfl, _, hD8, ?_, fun b o n m e' => ?_, ch8.updLst hD8, tabs_updL T8 hD8, ?_⟩
          · unfold nI
            rw [List.length_map]
            have := List.length_filter_le (goodAt ds) (List.range j)
            rw [List.length_range] at this
            exact szl (by omega)
          · have nDH : H5 D = none := nD
            rw [upd_ne (ne_of_none e' nDH)]
            exact ec8 b o n m e'
          · rw [upd_same, er]
            unfold nI
            rw [List.map_append]
            rfl
        | false =>
          rw [hgd, if_neg Bool.false_ne_true, List.append_nil] at er
          exact iteF ⟨ec8, ch8, T8, by rw [er]; exact hD8⟩
      · rintro G ⟨ec6, ch6, T6, hD⟩
        have hcl : cs.length = ds.length := ch5.al.1
        rw [hcl] at ch6 hD
        exact ⟨_, _, rfl, v, D, rfl, ls5.step ec6 (ch6.same (Same.refl G) (by omega)) T6, ch5.extC_found ec6 hv, hD⟩
    -- if good == []
    rintro σ4 H4 ⟨v, gL, rfl, ls4, hv, hgL⟩
    refine ⟨_, rfl, ?_⟩
    refine rd_l0 fun B5 H5 nB5 s5 hB5 => ?_
    refine ⟨_, _, dp_nI (s5 _ _ hgL), dp_nI (l := []) hB5, shaped_dN _, shaped_dN _, _, rfl, ?_⟩
    rw [eqv_dN]
    by_cases hg0 : goodL ds = []
    · rw [decide_eq_true hg0]
      refine iteT ⟨_, rfl, rfl, ?_⟩
      rcases hv with ⟨rfl, _⟩ | ⟨pl, d, q, ag, _, hd, hgd, _⟩
      · rw [show decide (V.non = V.non) = true from decide_eq_true rfl]
        exact k _
      · have := mem_goodL.mpr ⟨d, hd, hgd⟩
        rw [hg0] at this
        cases this
    rw [decide_eq_false hg0]
    refine iteF ?_
    have ls5 := ls4.same s5 (Nat.le_refl _)
    have hv5 : CFound CC H5 v ds := ls4.chs.extC_found (s5.ca (ds := ds)).extC hv
    have hgL5 := s5 _ _ hgL
    clear hv hgL ls4 hB5 nB5
    rcases hv5 with ⟨_, hall⟩ | ⟨pl, d, q, ag, rfl, hd, hgd, hmn, hcq, hag⟩
    · exfalso
      obtain ⟨i, hi⟩ := List.exists_mem_of_ne_nil _ hg0
      obtain ⟨d, hd, hgd⟩ := mem_goodL.mp hi
      rw [hall d (List.mem_of_getElem? hd)] at hgd
      cases hgd
    have sl5 : SL P w C CC PT H5 tl pL ca gL q ag 4800 pl vs cs ds d := ⟨ls5, hd, hgd, hmn, hcq, hag⟩
    clear ls5 hcq hag
    -- least
    let gP : List Int := (goodL ds).map fun i => ((ds[i]?).map (·.pr)).getD 0
    refine ⟨_, rfl, gL, rfl, ⟨_, SqL.of hgL5⟩, fun D nD => lc_list (K := K) (xs := nI (goodL ds)) (fun j G => Same H5 G ∧ G D = some (.lst ((gP.take j).map V.int)))
      ⟨same_upd nD, upd_same⟩ (fun j G _ hh => SqL.of (hh.1 _ _ hgL5)) ?_ ?_⟩
    · rintro j y G hj ⟨sG, hD⟩
      obtain ⟨i, hi, rfl⟩ := nI_at hj
      obtain ⟨e, he, _⟩ := mem_goodL.mp (List.mem_of_getElem? hi)
      have hgj : gP[j]? = some e.pr := by
        show ((goodL ds).map _)[j]? = _
        rw [List.getElem?_map, hi]
        show some (((ds[i]?).map (·.pr)).getD 0) = _
        rw [he]
        rfl
      have hx : (ds.map fun d => V.int d.pr)[i]? = some (.int e.pr) := by rw [List.getElem?_map, he]; rfl
      have hjl : j < (goodL ds).length := (List.getElem?_eq_some_iff.mp hi).1
      have hgl : (goodL ds).length ≤ 4 := by
        have h1 := List.length_filter_le (goodAt ds) (List.range ds.length)
        rw [List.length_range] at h1
        exact Nat.le_trans h1 sl5.ls.chs.len
      refine ⟨rfl, ?_⟩
      refine ⟨_, rfl, _, rfl, pL, _, (i : Int), _, rfl, rfl, SqL.of (sG _ _ sl5.ls.prl), atI_nat hx, _, hD, ?_, sG.mut nD, ?_⟩
      · rw [List.length_map, List.length_take]
        exact szl (by omega)
      · rw [upd_same, map_take_succ hgj]
    rintro G ⟨sG, hD⟩
    have hgl : (nI (goodL ds)).length = gP.length := by
      show (nI (goodL ds)).length = ((goodL ds).map _).length
      unfold nI
      rw [List.length_map, List.length_map]
    rw [hgl, List.take_length] at hD
    have hdg : d.pr ∈ gP := List.mem_map.mpr ⟨pl, mem_goodL.mpr ⟨d, hd, hgd⟩, by rw [hd]; rfl⟩
    refine ⟨D, gP, rfl, SqL.of hD, List.length_pos_of_mem hdg, fun m hm hmin => ?_⟩
    have hmd : m = d.pr := by
      refine Int.le_antisymm (hmin _ hdg) ?_
      obtain ⟨i, hi, e⟩ := List.mem_map.mp hm
      obtain ⟨e', he', hg'⟩ := mem_goodL.mp hi
      rw [he'] at e
      have e2 : e'.pr = m := e
      by_cases hlt : e'.pr < d.pr
      · have := hmn e' (List.mem_of_getElem? he') hlt
        rw [hg'] at this
        cases this
      · omega
    subst hmd
    have sl6 := sl5.same sG (Nat.le_refl _)
    have hgL6 := sG _ _ hgL5
    clear hD hgl hmin hm hdg sl5 hgL5
    -- found is the cheapest
    refine ⟨fun σ' H' => σ' = σX a (some (.ref tl)) none (some (.ref pL)) (some (.ref ca)) (some (.ref q)) (some (.ref gL)) (some (.int d.pr)) none none none none none none ∧ SL P w C CC PT H' tl pL ca gL q ag 10800 pl vs cs ds d, ?_, ?_⟩
    · obtain ⟨dxq, hq⟩ := id sl6.ch
      refine ⟨_, rfl, rfl, _, rfl, ?_⟩
      rw [show decide (V.ref q = V.non) = false from decide_eq_false (fun z => by cases z)]
      refine iteF ⟨_, rfl, q, CC, dxq, _, _, rfl, hq, L.TH.cl, L.TH.np, chf_p _ _, _, rfl, gL, _, rfl, .inl (SqL.of hgL6), rfl, flat_nI _, _, rfl, ?_⟩
      rw [show (if true = true then !inV (.int (pl : Int)) (nI (goodL ds)) else inV (.int (pl : Int)) (nI (goodL ds))) = false by rw [inV_nI (mem_goodL.mpr ⟨d, hd, hgd⟩)]; rfl]
      have hx : (ds.map fun d => V.int d.pr)[pl]? = some (.int d.pr) := by rw [List.getElem?_map, hd]; rfl
      refine iteF ⟨_, rfl, _, rfl, q, CC, dxq, _, _, rfl, hq, L.TH.cl, L.TH.np, chf_p _ _, pL, _, (pl : Int), _, rfl, rfl, SqL.of sl6.ls.prl, atI_nat hx, _, rfl, rfl, _, rfl, ?_⟩
      rw [show (!decide (V.int d.pr = V.int d.pr)) = false by rw [decide_eq_true rfl]; rfl]
      refine iteF ⟨_, rfl, q, dxq, _, rfl, hq, chf_m, _, rfl, ca, cs, rfl, .inl ⟨SqL.of sl6.ls.chl, fun lt hlt => ?_⟩⟩
      have s7 := same_upd (o := HO.tup cs) hlt
      have hlt7 : (upd G lt (.tup cs)) lt = some (sqO false cs) := upd_same
      generalize upd G lt (.tup cs) = H7 at s7 hlt7
      have sl7 := sl6.same s7 (Nat.le_refl _)
      refine ⟨q, ag, lt, pl, _, false, cs, ds, 4800, d, rfl, sl7.ch, sl7.ag, asc_cheap ds d, sl7.len, hlt7, sl7.ls.chs, by decide, hd, fun x hx => ?_, fun H8 cb8 ch8 => ?_⟩
      · obtain ⟨e, he, _, _, hp, _⟩ := sl7.prog hx
        exact ⟨e, he, hp⟩
      rw [sl7.show]
      refine ⟨_, rfl, ?_⟩
      refine iteF ⟨rfl, sl7.step cb8.extC ch8 (sl7.ls.chs.tabs cb8 sl7.ls.tab)⟩
    clear sl6 hgL6
    rintro σ6 H6 ⟨rfl, sl6⟩
    -- the places against which it is told
    refine ⟨fun σ' H' => σ' = σX a (some (.ref tl)) none (some (.ref pL)) (some (.ref ca)) (some (.ref q)) (some (.ref gL)) (some (.int d.pr)) none none none none none none ∧ SL P w C CC PT H' tl pL ca gL q ag 10800 pl vs cs ds d, ?_, ?_⟩
    · obtain ⟨dxq, hq⟩ := id sl6.ch
      obtain ⟨kvs, hag, hb⟩ := id sl6.ag
      refine ⟨_, rfl, q, CC, dxq, _, _, rfl, hq, L.TH.cl, L.TH.na, chf_a _ _, ag, kvs, rfl, .inl hag, fun p7 np7 => ?_⟩
      rw [keys_nI hb, agL_fst]
      have s7 := same_upd (o := HO.lst (nI (cheapD ds d))) np7
      have hp7 : (upd H6 p7 (.lst (nI (cheapD ds d)))) p7 = some (.lst (nI (cheapD ds d))) := upd_same
      generalize upd H6 p7 (.lst (nI (cheapD ds d))) = H7 at s7 hp7
      have sl7 := sl6.same s7 (Nat.le_refl _)
      have hvl : vs.length = ds.length := sl7.ls.toa.1
      have hkl : (ds.map (·.pr)).length = ds.length := List.length_map _
      have h4 := sl7.ls.chs.len
      refine ⟨_, rfl, tl, vs, rfl, .inl (SqL.of sl7.ls.tol), (vs.length : Int), rfl, by omega, by omega, fun D nD => lc_range (n := (vs.length : Int).toNat) (fun j G => Same H7 G ∧ G D = some (.lst (nI (cheapL (ds.map (·.pr)) d.pr j))))
        ⟨same_upd nD, upd_same⟩ ?_ ?_⟩
      · rintro j G hj ⟨sG, hD⟩
        rw [Int.zero_add]
        have hjl : j < ds.length := by omega
        have hx : (ds.map fun d => V.int d.pr)[j]? = some (.int (ds[j]).pr) := by rw [List.getElem?_map, List.getElem?_eq_getElem hjl]; rfl
        have hk : (ds.map (·.pr))[j]? = some (ds[j]).pr := by rw [List.getElem?_map, List.getElem?_eq_getElem hjl]; rfl
        have hcl := cheapL_len (ds.map (·.pr)) d.pr j
        refine ⟨rfl, ?_⟩
        refine ⟨_, rfl, _, rfl, pL, _, (j : Int), _, rfl, rfl, SqL.of (sG _ _ sl7.ls.prl), atI_nat hx, _, rfl, _, _, rfl, rfl, _, rfl, ?_⟩
        by_cases hp : (ds[j]).pr < d.pr
        · rw [decide_eq_true hp]
          refine iteT ⟨_, rfl, _, hD, ?_, sG.mut nD, ?_⟩
          · unfold nI
            rw [List.length_map]
            exact szl (by omega)
          · rw [upd_same, cheapL_succ hk, if_pos hp]
            unfold nI
            rw [List.map_append]
            rfl
        · rw [decide_eq_false hp]
          exact iteF ⟨sG, by rw [cheapL_succ hk, if_neg hp, List.append_nil]; exact hD⟩
      · rintro G ⟨sG, hD⟩
        have en : (vs.length : Int).toNat = (ds.map (·.pr)).length := by omega
        rw [en] at hD
        refine ⟨_, _, dp_nI (sG _ _ hp7), dp_nI hD, shaped_dN _, shaped_dN _, _, rfl, ?_⟩
        rw [eqv_dN, decide_eq_true (show cheapD ds d = cheapL (ds.map (·.pr)) d.pr (ds.map (·.pr)).length from rfl)]
        exact iteF ⟨rfl, sl7.same sG (Nat.le_refl _)⟩
    clear sl6
    rintro σ7 H7 ⟨rfl, sl7⟩
    -- the programs against which it is told
    refine ⟨fun σ' H' => ∃ v2 v8 v9 v10 v11, σ' = σX a (some (.ref tl)) v2 (some (.ref pL)) (some (.ref ca)) (some (.ref q)) (some (.ref gL)) (some (.int d.pr)) v8 v9 v10 v11 none none ∧ SL P w C CC PT H' tl pL ca gL q ag 10800 pl vs cs ds d, ?_, ?_⟩
    · obtain ⟨dxq, hq⟩ := id sl7.ch
      obtain ⟨kvs, hag, hb⟩ := id sl7.ag
      have nqa : q ≠ ag := ne_of hq hag (by intro z; cases z)
      have nta : tl ≠ ag := ne_of sl7.ls.tol hag (by intro z; cases z)
      refine ⟨ag, _, hag, True.intro, fun od => ?_⟩
      let Hf := upd H7 ag (.frz od (.dK kvs))
      have hf : Hf ag = some (.frz od (.dK kvs)) := upd_same
      have hqf : Hf q = some (.ins CC dxq (chf pl ag)) := by show upd H7 ag _ q = _; rw [upd_ne nqa]; exact hq
      have htf : Hf tl = some (.lst vs) := by show upd H7 ag _ tl = _; rw [upd_ne nta]; exact sl7.ls.tol
      have prf : Prs H7 Hf := prs_any hag
      have htold : ∀ {i : Nat} {e : Ch}, ds[i]? = some e → ∃ v, vs[i]? = some v ∧ ToldF Hf v e.ti := fun {i e} he => by
        obtain ⟨v, hv, ht⟩ := sl7.ls.toa.at' he
        exact ⟨v, hv, ht.ne_ag hag hb (sl7.ls.chs.ok e (List.mem_of_getElem? he)).one.k⟩
      refine ⟨_, rfl, q, CC, dxq, _, _, rfl, hqf, L.TH.cl, L.TH.na, chf_a _ _, ag, od, kvs, rfl, hf, for_it (walk_items (d := ag) (o := od) (kvs := kvs)) (fun i σ' G => ∃ v2 v8 v9 v10 v11, σ' = σX a (some (.ref tl)) v2 (some (.ref pL)) (some (.ref ca)) (some (.ref q)) (some (.ref gL)) (some (.int d.pr)) v8 v9 v10 v11 none none ∧ Same Hf G)
        ⟨none, none, none, none, none, rfl, Same.refl Hf⟩ (fun i σ' G _ hh => by obtain ⟨_, _, _, _, _, _, s⟩ := hh; exact s _ _ hf) ?_ ?_⟩
      · rintro i y σ' G G' hi ⟨v2, v8, v9, v10, v11, rfl, sG⟩ ⟨T0, x1, x2, rfl, nT, rfl, e1, e2⟩
        obtain ⟨⟨ky, vy⟩, hky, rfl⟩ := Option.map_eq_some_iff.mp e1
        have e2' : kvs[i]?.map Prod.snd = some x2 := e2
        rw [hky] at e2'
        cases e2'
        obtain ⟨x, hx, ek, r, ev, hr0⟩ := hb.at hky
        have ek' : ky = (Sum.inl (x.1 : Int) : Key) := ek
        have ev' : vy = .ref r := ev
        subst ek' ev'
        obtain ⟨e, he, _, hir, hpk, _⟩ := sl7.prog (List.mem_of_getElem? hx)
        have hem := List.mem_of_getElem? he
        have eok := sl7.ls.chs.ok e hem
        obtain ⟨hs, rss, es, hlp, hne⟩ := lawWrong.ok ((sl7.ls.lw e hem).lw _ hir)
        obtain ⟨v, hv, ht⟩ := htold he
        have sT := same_upd (o := HO.tup [V.int (x.1 : Int), V.ref r]) nT
        have sfT := sG.trans sT
        have hreg : 1 ≤ e.ti.regs ∧ e.ti.regs ≤ 4 := by rw [eok.one.r]; decide
        have hplen := hpk.len
        have hpr := (prf _ _ hr0).same sfT
        refine ⟨T0, _, rfl, SqT.of upd_same, rfl, _, _, rfl, _, _, rfl, rfl, ?_⟩
        refine ⟨_, rfl, _, rfl, tl, vs, (x.1 : Int), v, rfl, rfl, SqL.of (sfT _ _ htf), atI_nat hv, _, rfl, e.ti, e.ki, eok.one, eok.ko, v, r, x.2, hs, rss, es, rfl, (ht.same sfT).told, hpr, by omega, hreg.1, hreg.2, hlp, fun rr G3 s3 lpa => ?_⟩
        obtain ⟨pa, pb, pc, ys, h1, h2, h3, h4, h5⟩ := lpa
        refine ⟨rr, _, rfl, SqT.of h1, rfl, _, _, rfl, _, _, rfl, _, _, rfl, rfl, ?_⟩
        have sf3 := sfT.trans s3
        refine ⟨_, rfl, _, rfl, ?_⟩
        refine rd_t2 fun pt G4 s4 hpt => ?_
        have sf4 := sf3.trans s4
        refine ⟨_, rfl, _, rfl, tl, vs, (x.1 : Int), v, rfl, rfl, SqL.of (sf4 _ _ htf), atI_nat hv, _, rfl, e.ti, e.ki, eok.one, eok.ko, v, r, x.2, rfl, (ht.same sf4).told, (prf _ _ hr0).same sf4, by omega, hpk.ok, hreg.1, hreg.2, fun r2 G5 s5 plain => ?_⟩
        obtain ⟨q2, q3, qs2, k1, k2, k3, k4⟩ := plain
        have s35 := s4.trans s5
        refine ⟨dP (rss, es), dP (lplainS e.ti x.2), ?_, ?_, shaped_dP _, shaped_dP _, _, rfl, ?_⟩
        · exact .tup (SqT.of (s5 _ _ hpt)) (.cons (.lst (SqL.of (s35 _ _ h3)) (dp_tis (h4.mono fun _ _ z => TiAt.mono s35.tups z))) (.cons (.lst (SqL.of (s35 _ _ h5)) (dp_intsL es)) .nil))
        · exact .tup (SqT.of k1) (.cons (.lst (SqL.of k2) (dp_tis k3)) (.cons (.lst (SqL.of k4) (dp_intsL _)) .nil))
        rw [eqv_dP, decide_eq_false (fun z => hne ⟨congrArg Prod.fst z, congrArg Prod.snd z⟩)]
        exact iteF ⟨_, _, _, _, _, rfl, sf4.trans s5⟩
      · rintro σ' G ⟨v2, v8, v9, v10, v11, rfl, sG⟩
        exact ⟨sG _ _ hf, v2, v8, v9, v10, v11, rfl, sl7.same (unl hag sG) (Nat.le_refl _)⟩
    clear sl7
    rintro σ8 H8 ⟨w2, w8, w9, w10, w11, rfl, sl8⟩
    -- spoilt
    refine ⟨fun σ' H' => ∃ v2 v8 v9 v10 v11, σ' = σX a (some (.ref tl)) v2 (some (.ref pL)) (some (.ref ca)) (some (.ref q)) (some (.ref gL)) (some (.int d.pr)) v8 v9 v10 v11 none none ∧ LS P w C PT H' tl pL ca 28800 vs cs ds, ?_, ?_⟩
    · obtain ⟨dxq, hq⟩ := id sl8.ch
      obtain ⟨kvs, hag, hb⟩ := id sl8.ag
      refine ⟨_, rfl, q, CC, dxq, _, _, rfl, hq, L.TH.cl, L.TH.na, chf_a _ _, fun pr npr => ⟨ag, pr, kvs, rfl, rfl, (same_upd npr) _ _ hag, upd_same, _, rfl, ?_⟩⟩
      have s9 := same_upd (o := HO.dK []) npr
      have sl9 := sl8.same s9 (Nat.le_refl _)
      generalize upd H8 pr (.dK []) = H9 at s9 sl9
      cases kvs with
      | nil => exact iteF ⟨_, _, _, _, _, rfl, sl9.ls.same (Same.refl H9) (by decide)⟩
      | cons p0 kr =>
      obtain ⟨n0, ns0, hcd⟩ : ∃ n0 ns0, cheapD ds d = n0 :: ns0 := by
        cases hc : cheapD ds d with
        | nil =>
          rw [hc] at hb
          cases hb.1
        | cons n0 ns0 => exact ⟨n0, ns0, rfl⟩
      obtain ⟨e0, he0, hlt0⟩ := cheap_mem (ds := ds) (d := d) (i := n0) (by rw [hcd]; exact List.mem_cons_self)
      have hm0 := List.mem_of_getElem? he0
      have hg0' := sl9.mn e0 hm0 hlt0
      have ok0 := sl9.ls.chs.ok e0 hm0
      have asc := asc_cheap ds d
      have knd := asc_nodup hb asc
      have hlen4 := sl9.len
      have progs := fun x hx => sl9.prog (x := x) hx
      rw [hcd] at hb asc hlen4 progs
      have eag : agL ds (n0 :: ns0) = (n0, progL ds n0) :: agL ds ns0 := rfl
      rw [eag] at hb asc hlen4 progs
      obtain ⟨k0, v0⟩ := p0
      have ek0 : k0 = (Sum.inl (n0 : Int) : Key) := (hb.2 0 _ _ rfl rfl).1
      subst ek0
      have hkl4 : kr.length + 1 ≤ 4 := by
        have h1 : ((Sum.inl (n0 : Int), v0) :: kr).length = ((n0, progL ds n0) :: agL ds ns0).length := hb.1
        rw [List.length_cons] at h1
        omega
      have ascT : Asc (agL ds ns0) := by
        unfold Asc at asc ⊢
        rw [List.map_cons] at asc
        exact (List.pairwise_cons.mp asc).2
      have hkn : ∀ p ∈ kr, p.1 ≠ (Sum.inl (n0 : Int) : Key) := fun p hp z => by
        rw [List.map_cons] at knd
        exact (List.nodup_cons.mp knd).1 (by show (Sum.inl (n0 : Int) : Key) ∈ _; rw [← z]; exact List.mem_map_of_mem hp)
      refine iteT ?_
      -- at
      obtain ⟨dxq9, hq9⟩ := id sl9.ch
      have hag9 : H9 ag = some (.dK ((Sum.inl (n0 : Int), v0) :: kr)) := s9 _ _ hag
      refine ⟨_, rfl, q, CC, dxq9, _, _, rfl, hq9, L.TH.cl, L.TH.na, chf_a _ _, ag, _, rfl, .inl hag9, fun pk npk => ⟨pk, _, 0, .int (n0 : Int), rfl, rfl, SqL.of upd_same, at0, ?_⟩⟩
      have s10 := same_upd (o := HO.lst ((((Sum.inl (n0 : Int) : Key), v0) :: kr).map fun kv => kV kv.1)) npk
      have sl10 := sl9.same s10 (Nat.le_refl _)
      have hag10 := s10 _ _ hag9
      have hq10 := s10 _ _ hq9
      have hb10 := hb.mono fun _ _ z => z.mono (s9.trans s10).prs
      generalize upd H9 pk (.lst ((((Sum.inl (n0 : Int) : Key), v0) :: kr).map fun kv => kV kv.1)) = H10 at s10 sl10 hag10 hq10 hb10
      clear s9 sl9 hag9 hq9 s10 hq hag hb sl8
      -- Chosen(found.place, dict([..])).shows(choices)
      refine ⟨_, rfl, q, CC, dxq9, _, _, rfl, hq10, L.TH.cl, L.TH.np, chf_p _ _, ag, _, hag10, True.intro, fun od => ?_⟩
      have nqa : q ≠ ag := ne_of hq10 hag10 (by intro z; cases z)
      have hf : (upd H10 ag (.frz od (.dK ((Sum.inl (n0 : Int), v0) :: kr)))) ag = some (.frz od (.dK ((Sum.inl (n0 : Int), v0) :: kr))) := upd_same
      have hqf : (upd H10 ag (.frz od (.dK ((Sum.inl (n0 : Int), v0) :: kr)))) q = some (.ins CC dxq9 (chf pl ag)) := by rw [upd_ne nqa]; exact hq10
      generalize hHf : upd H10 ag (.frz od (.dK ((Sum.inl (n0 : Int), v0) :: kr))) = Hf at hf hqf
      refine ⟨_, rfl, q, CC, dxq9, _, _, rfl, hqf, L.TH.cl, L.TH.na, chf_a _ _, ag, od, _, rfl, hf, fun D nD => lc_it (walk_itemsN (d := ag) (o := od) (kvs := (Sum.inl (n0 : Int), v0) :: kr)) (fun j G => Same Hf G ∧ ∃ ps : List Addr, G D = some (.lst (ps.map V.ref)) ∧ Paired (fun (p : Addr) (kv : Key × V) => G p = some (.tup [kV kv.1, kv.2])) ps ((((Sum.inl (n0 : Int), v0) :: kr).take j).drop 1))
        ⟨same_upd nD, [], upd_same, .nil⟩ (fun j G _ hh => hh.1 _ _ hf) ?_ ?_⟩
      · rintro j y G G' hj ⟨sG, ps, hD, hps⟩ ⟨T0, ky, v, hky, rfl, nT, rfl⟩
        have sT := same_upd (o := HO.tup [kV ky, v]) nT
        have hT0 : (upd G T0 (HO.tup [kV ky, v])) T0 = some (.tup [kV ky, v]) := upd_same
        generalize upd G T0 (HO.tup [kV ky, v]) = G2 at sT hT0
        obtain ⟨x, hx, ekx, _⟩ := hb10.at hky
        have ekx' : ky = (Sum.inl (x.1 : Int) : Key) := ekx
        subst ekx'
        refine ⟨rfl, ?_⟩
        refine ⟨_, rfl, T0, _, 0, _, rfl, rfl, SqT.of hT0, at0, _, rfl, rfl, _, rfl, ?_⟩
        cases j with
        | zero =>
          have e0' : ((Sum.inl (n0 : Int) : Key), v0) = (Sum.inl (x.1 : Int), v) := Option.some.inj hky
          have e1' : (n0 : Int) = (x.1 : Int) := Sum.inl.inj (congrArg Prod.fst e0')
          rw [← e1']
          rw [show (!decide (kV (Sum.inl (n0 : Int) : Key) = V.int (n0 : Int))) = false by rw [show kV (Sum.inl (n0 : Int) : Key) = V.int (n0 : Int) from rfl, decide_eq_true rfl]; rfl]
          exact iteF ⟨sG.trans sT, ps, sT _ _ hD, pairedM (fun _ _ z => sT _ _ z) hps⟩
        | succ j =>
          have hkr : kr[j]? = some (Sum.inl (x.1 : Int), v) := hky
          have hne := hkn _ (List.mem_of_getElem? hkr)
          rw [show (!decide (kV (Sum.inl (x.1 : Int) : Key) = V.int (n0 : Int))) = true by
            rw [decide_eq_false (show ¬ (kV (Sum.inl (x.1 : Int) : Key) = V.int (n0 : Int)) from fun z => hne (congrArg Sum.inl (V.int.inj (show V.int (x.1 : Int) = V.int (n0 : Int) from z))))]; rfl]
          have et : (((Sum.inl (n0 : Int), v0) :: kr).take (j + 1 + 1)).drop 1 = (((Sum.inl (n0 : Int), v0) :: kr).take (j + 1)).drop 1 ++ [((Sum.inl (x.1 : Int) : Key), v)] := by
            show kr.take (j + 1) = kr.take j ++ _
            exact take_succ_at hkr
          have hpl : ps.length = ((((Sum.inl (n0 : Int), v0) :: kr).take (j + 1)).drop 1).length := Paired.length hps
          refine iteT ⟨_, rfl, ps.map V.ref, sT _ _ hD, ?_, (sG.trans sT).mut nD, ps ++ [T0], ?_, ?_⟩
          · have hjl := (List.getElem?_eq_some_iff.mp hkr).1
            rw [List.length_drop, List.length_take, List.length_cons] at hpl
            rw [List.length_map]
            exact szl (by omega)
          · rw [upd_same, List.map_append]
            rfl
          · rw [et]
            have tp : Tups G2 (upd G2 D (.lst (ps.map V.ref ++ [V.ref T0]))) := tups_lst (sT _ _ hD)
            exact Paired.snoc (pairedM (fun _ _ z => tp _ _ (sT _ _ z)) hps) (tp _ _ hT0)
      rintro G ⟨sG, ps, hD, hps⟩
      rw [List.take_length] at hps
      have hps' : Paired (fun (p : Addr) (kv : Key × V) => G p = some (.tup [kV kv.1, kv.2])) ps kr := hps
      refine ⟨sG _ _ hf, ?_⟩
      have hfG := sG _ _ hf
      have s11 : Same H10 (upd G ag (.dK ((Sum.inl (n0 : Int), v0) :: kr))) := unl hag10 (by rw [hHf]; exact sG)
      have hD11 : (upd G ag (.dK ((Sum.inl (n0 : Int), v0) :: kr))) D = some (.lst (ps.map V.ref)) := by rw [upd_ne (fun z => by rw [z, hfG] at hD; cases hD)]; exact hD
      have hps11 : Paired (fun (p : Addr) (kv : Key × V) => (upd G ag (.dK ((Sum.inl (n0 : Int), v0) :: kr))) p = some (.tup [kV kv.1, kv.2])) ps kr := pairedM (fun p kv z => by rw [upd_ne (fun y => by rw [y, hfG] at z; cases z)]; exact z) hps'
      generalize upd G ag (.dK ((Sum.inl (n0 : Int), v0) :: kr)) = H11 at s11 hD11 hps11
      refine ⟨D, ps, kr, rfl, SqL.of hD11, pairedM (fun _ _ z => SqT.of z) hps11, fun pd npd => ?_⟩
      have kndr : ((([] : List (Key × V)) ++ kr).map (·.1)).Nodup := by
        rw [List.map_cons] at knd
        exact (List.nodup_cons.mp knd).2
      rw [mergeK_new kndr, List.nil_append]
      have s12 := same_upd (o := HO.dK kr) npd
      have hpd12 : (upd H11 pd (.dK kr)) pd = some (.dK kr) := upd_same
      generalize upd H11 pd (.dK kr) = H12 at s12 hpd12
      have s02 := s11.trans s12
      have sl12 := sl10.same s02 (Nat.le_refl _)
      have hb12 := hb10.mono fun _ _ z => z.mono s02.prs
      have hag12 := s02 _ _ hag10
      have hq12 := s02 _ _ hq10
      clear hHf hf hqf sG hD hps hps' hfG hD11 hps11 sl10 hb10 hag10 hq10 s11 npd s12 s02
      intro x dx nx ndx nex
      have sm : Same H12 (upd (upd H12 dx (.own x)) x (.ins CC dx [])) := fun b o e' => by
        rw [upd_ne (ne_of_none e' nx), upd_ne (ne_of_none e' ndx)]
        exact e'
      refine ⟨x, dx, pd, (pl : Int), agL ds ns0, rfl, upd_same, ⟨kr, sm _ _ hpd12, hb12.tail.mono fun _ _ z => z.mono sm.prs⟩, ascT, ?_, fun H13 ag2 bt13 chat dag13 nag => ⟨rfl, ?_⟩⟩
      · have : (agL ds ns0).length + 1 ≤ 4 := hlen4
        omega
      have s13 : Same H12 H13 := fun b o e' => bt13 b o (ne_of_none e' nx) (sm b o e')
      have sl13 := sl12.same s13 (Nat.le_refl _)
      obtain ⟨dx13, hx13⟩ := id chat
      refine ⟨x, dx13, _, rfl, hx13, chf_m, _, rfl, ?_⟩
      refine ⟨x, ag2, ca, pl, agL ds ns0, true, cs, ds, 10800, d, rfl, chat, dag13, ascT, ?_, sl13.ls.chl, sl13.ls.chs, by decide, hd, fun y hy => ?_, fun H14 cb14 ch14 => ?_⟩
      · have : (agL ds ns0).length + 1 ≤ 4 := hlen4
        omega
      · obtain ⟨e, he, _, _, hp, _⟩ := progs y (List.mem_cons_of_mem _ hy)
        exact ⟨e, he, hp⟩
      have sh0 : showB ds d (agL ds ns0) = false := by
        unfold showB
        have hne : ¬ ((agL ds ns0).map (·.1) = cheapL (ds.map (·.pr)) d.pr (ds.map (·.pr)).length) := by
          rw [agL_fst]
          intro z
          have z2 : ns0 = cheapD ds d := z
          rw [hcd] at z2
          have := congrArg List.length z2
          rw [List.length_cons] at this
          omega
        rw [decide_eq_false hne, Bool.false_and, Bool.false_and]
      rw [sh0]
      refine ⟨_, rfl, ?_⟩
      refine iteF ?_
      have sl14 := sl13.step cb14.extC ch14 (sl13.ls.chs.tabs cb14 sl13.ls.tab)
      clear sl12 sl13 dag13 chat hx13 bt13 s13 sm nag hpd12 hb12 hag12 hq12 cb14 ch14 sh0
      -- Chosen(at, {}).shows(choices)
      refine ⟨_, rfl, fun pe npe => ?_⟩
      have s15 := same_upd (o := HO.dK []) npe
      have hpe : (upd H14 pe (.dK [])) pe = some (.dK []) := upd_same
      generalize upd H14 pe (.dK []) = H15 at s15 hpe
      have sl15 := sl14.same s15 (Nat.le_refl _)
      intro x2 dx2 nx2 ndx2 nex2
      have sm2 : Same H15 (upd (upd H15 dx2 (.own x2)) x2 (.ins CC dx2 [])) := fun b o e' => by
        rw [upd_ne (ne_of_none e' nx2), upd_ne (ne_of_none e' ndx2)]
        exact e'
      refine ⟨x2, dx2, pe, (n0 : Int), [], rfl, upd_same, ⟨[], sm2 _ _ hpe, Bl.nil⟩, List.Pairwise.nil, Nat.zero_le _, fun H16 ag3 bt16 chat dag16 nag => ⟨rfl, ?_⟩⟩
      have s16 : Same H15 H16 := fun b o e' => bt16 b o (ne_of_none e' nx2) (sm2 b o e')
      have sl16 := sl15.same s16 (Nat.le_refl _)
      obtain ⟨dx16, hx16⟩ := id chat
      refine ⟨x2, dx16, _, rfl, hx16, chf_m, _, rfl, ?_⟩
      refine ⟨x2, ag3, ca, n0, [], true, cs, ds, 16800, e0, rfl, chat, dag16, List.Pairwise.nil, Nat.zero_le _, sl16.ls.chl, sl16.ls.chs, by decide, he0, fun y hy => (by cases hy), fun H17 cb17 ch17 => ?_⟩
      rw [show showB ds e0 [] = false by unfold showB; rw [hg0', Bool.and_false]]
      refine ⟨_, rfl, ?_⟩
      refine iteF ?_
      have sl17 := sl16.step cb17.extC ch17 (sl16.ls.chs.tabs cb17 sl16.ls.tab)
      clear sl14 sl15 sl16 dag16 chat hx16 bt16 s16 sm2 nag hpe cb17 ch17
      -- Chosen(found.place, dict(list(..) + [(at, [])])).shows(choices)
      obtain ⟨dxr, hq17⟩ := id sl17.ch
      obtain ⟨kv17, hag17, hb17⟩ := id sl17.ag
      rw [hcd, eag] at hb17
      cases kv17 with
      | nil => cases hb17.1
      | cons p1 kr1 =>
      obtain ⟨k1, v1⟩ := p1
      have ek1 : k1 = (Sum.inl (n0 : Int) : Key) := (hb17.2 0 _ _ rfl rfl).1
      subst ek1
      have knd1 := asc_nodup hb17 asc
      have hl17 : kr1.length + 1 ≤ 4 := by
        have h1 : ((Sum.inl (n0 : Int), v1) :: kr1).length = ((n0, progL ds n0) :: agL ds ns0).length := hb17.1
        rw [List.length_cons] at h1
        omega
      refine ⟨_, rfl, q, CC, dxr, _, _, rfl, hq17, L.TH.cl, L.TH.np, chf_p _ _, _, rfl, q, CC, dxr, _, _, rfl, hq17, L.TH.cl, L.TH.na, chf_a _ _, ag, _, rfl, hag17, fun H18 pp tps keep npp ntps npt hpp htps => ?_⟩
      have s18 : Same H17 H18 := keep
      have htl18 : tps.length = ((Sum.inl (n0 : Int), v1) :: kr1).length := Paired.length htps
      refine ⟨_, rfl, ?_⟩
      refine rd_l0 fun r0 H19 nr0 s19 hr0 => ?_
      refine rd_t2 fun t0 H20 s20 ht0 => ?_
      refine rd_l1 fun b0 H21 nb0 s21 hb0 => ?_
      have s1921 := (s19.trans s20).trans s21
      refine ⟨pp, b0, _, _, rfl, rfl, s1921 _ _ hpp, hb0, ?_, fun pc npc => ?_⟩
      · rw [List.length_map, htl18, List.length_cons]
        exact Nat.le_of_lt (szl (by show kr1.length + 1 + 1 ≤ 100000; omega))
      have s22 := same_upd (o := HO.lst (tps.map V.ref ++ [V.ref t0])) npc
      have hpc : (upd H21 pc (.lst (tps.map V.ref ++ [V.ref t0]))) pc = some (.lst ((tps ++ [t0]).map V.ref)) := by rw [upd_same, List.map_append]; rfl
      generalize upd H21 pc (.lst (tps.map V.ref ++ [V.ref t0])) = H22 at s22 hpc
      have s1822 := s1921.trans s22
      refine ⟨pc, tps ++ [t0], ((Sum.inl (n0 : Int), v1) :: kr1) ++ [((Sum.inl (n0 : Int) : Key), V.ref r0)], rfl, SqL.of hpc, Paired.snoc (pairedM (fun _ _ z => SqT.of (s1822 _ _ z)) htps) (SqT.of ((s21.trans s22) _ _ ht0)), fun pd npd => ?_⟩
      have hk1n : (Sum.inl (n0 : Int) : Key) ∉ kr1.map (·.1) := by
        rw [List.map_cons] at knd1
        exact (List.nodup_cons.mp knd1).1
      rw [mergeK_snoc, mergeK_new (by rw [List.nil_append]; exact knd1), List.nil_append, putK_head hk1n]
      have s23 := same_upd (o := HO.dK ((Sum.inl (n0 : Int), V.ref r0) :: kr1)) npd
      have hpd23 : (upd H22 pd (.dK ((Sum.inl (n0 : Int), V.ref r0) :: kr1))) pd = some (.dK ((Sum.inl (n0 : Int), V.ref r0) :: kr1)) := upd_same
      generalize upd H22 pd (.dK ((Sum.inl (n0 : Int), V.ref r0) :: kr1)) = H23 at s23 hpd23
      have s1723 := (s18.trans s1822).trans s23
      have sl23 := sl17.same s1723 (Nat.le_refl _)
      have hr023 : H23 r0 = some (.lst []) := s23 _ _ (s22 _ _ (s21 _ _ (s20 _ _ hr0)))
      have dag23 : DAg H23 pd ((n0, []) :: agL ds ns0) := ⟨_, hpd23, Bl.cons ⟨rfl, r0, rfl, [], hr023, Al.nil⟩ (hb17.tail.mono fun _ _ z => z.mono s1723.prs)⟩
      have asc2 : Asc ((n0, ([] : List Ins)) :: agL ds ns0) := by
        unfold Asc at asc ⊢
        rw [List.map_cons] at asc ⊢
        exact asc
      have hl2 : ((n0, ([] : List Ins)) :: agL ds ns0).length ≤ 4 := hlen4
      intro x3 dx3 nx3 ndx3 nex3
      have sm3 : Same H23 (upd (upd H23 dx3 (.own x3)) x3 (.ins CC dx3 [])) := fun b o e' => by
        rw [upd_ne (ne_of_none e' nx3), upd_ne (ne_of_none e' ndx3)]
        exact e'
      refine ⟨x3, dx3, pd, (pl : Int), _, rfl, upd_same, dag23.same sm3, asc2, Nat.le_trans hl2 (by decide), fun H24 ag4 bt24 chat dag24 nag => ⟨rfl, ?_⟩⟩
      have s24 : Same H23 H24 := fun b o e' => bt24 b o (ne_of_none e' nx3) (sm3 b o e')
      have sl24 := sl23.same s24 (Nat.le_refl _)
      obtain ⟨dx24, hx24⟩ := id chat
      refine ⟨x3, dx24, _, rfl, hx24, chf_m, _, rfl, ?_⟩
      refine ⟨x3, ag4, ca, pl, _, true, cs, ds, 22800, d, rfl, chat, dag24, asc2, hl2, sl24.ls.chl, sl24.ls.chs, by decide, hd, fun y hy => ?_, fun H25 cb25 ch25 => ?_⟩
      · rcases List.mem_cons.mp hy with rfl | hy
        · exact ⟨e0, he0, ok0.em.1⟩
        · obtain ⟨e, he, _, _, hp, _⟩ := progs y (List.mem_cons_of_mem _ hy)
          exact ⟨e, he, hp⟩
      have sh0 : showB ds d ((n0, []) :: agL ds ns0) = false := by
        unfold showB
        have : rightAt ds (n0, []) = true := by
          unfold rightAt
          rw [he0]
          exact ok0.em.2
        rw [List.any_cons, this, Bool.true_or, Bool.not_true, Bool.and_false, Bool.false_and]
      rw [sh0]
      refine ⟨_, rfl, ?_⟩
      exact iteF ⟨_, _, _, _, _, rfl, sl24.ls.step cb25.extC ch25 (sl24.ls.chs.tabs cb25 sl24.ls.tab)⟩
    clear hd hgd hmn
    rintro σ9 H9 ⟨w2, w8, w9, w10, w11, rfl, ls9⟩
    -- what is none
    refine ⟨fun σ' H' => Same H9 H', ?_, ?_⟩
    · obtain ⟨d0, hd0⟩ : ∃ d0, ds[0]? = some d0 := ⟨_, List.getElem?_eq_getElem (i := 0) ls9.pos⟩
      obtain ⟨x0, hx0, qx⟩ := ls9.chs.al.at' hd0
      obtain ⟨ta, rfl, hta⟩ := qx.tup
      obtain ⟨dx0, hp0⟩ := qx.pi
      have hc0 : atI cs 0 = some (.ref ta) := atI_nat (j := 0) hx0
      refine rd_t2 fun t1 G1 s1' ht1 => ?_
      refine rd_l1 fun l1' G2 nl1 s2' hl1 => ?_
      have s02 := s1'.trans s2'
      refine ⟨_, rfl, ca, cs, 0, _, rfl, rfl, SqL.of (s02 _ _ ls9.chl), hc0, ta, _, 1, _, rfl, rfl, SqT.of (s02 _ _ hta), at1, ?_⟩
      refine rd_t2 fun t2 G3 s3' ht2 => ?_
      refine rd_l1 fun l2 G4 nl2 s4' hl2 => ?_
      have s04 := (s02.trans s3').trans s4'
      refine ⟨_, rfl, ca, cs, 0, _, rfl, rfl, SqL.of (s04 _ _ ls9.chl), hc0, ta, _, 1, _, rfl, rfl, SqT.of (s04 _ _ hta), at1, ?_⟩
      refine rd_l1 fun l3 G5 nl3 s5' hl3 => ?_
      refine rd_t4 fun tp G6 s6' htp => ?_
      have s06 := (s04.trans s5').trans s6'
      have s46 := s5'.trans s6'
      have s26 := (s3'.trans s4').trans s46
      have hbad : ∀ y ∈ [V.ref l1', V.ref l2, V.non, V.ref l3], ∀ G, Same G6 G → (y = .non ∨ ∃ ca x, y = .ref ca ∧ G ca = some (.lst [x]) ∧ BdC C G x) := by
        intro y hy G sG
        have b1 : y = .ref l1' ∨ y = .ref l2 ∨ y = .non ∨ y = .ref l3 := by simpa using hy
        rcases b1 with rfl | rfl | rfl | rfl
        · exact .inr ⟨l1', _, rfl, sG _ _ (s26 _ _ hl1), .inl ⟨t1, rfl, sG _ _ ((s2'.trans s26) _ _ ht1)⟩⟩
        · exact .inr ⟨l2, _, rfl, sG _ _ (s46 _ _ hl2), .inr (.inl ⟨t2, _, rfl, sG _ _ ((s4'.trans s46) _ _ ht2)⟩)⟩
        · exact .inl rfl
        · exact .inr ⟨l3, _, rfl, sG _ _ (s6' _ _ hl3), .inr (.inr ⟨d0.p, dx0, _, rfl, sG _ _ (s06 _ _ hp0)⟩)⟩
      refine ⟨tp, rfl, ⟨_, SqT.of htp⟩, for_it (g := gName 12) (tb := tTry P w K C CB CC PT) (D := { nx := fun σ' H' => Same H9 H', rt := Q }) (walk_tup (K := K) (a := tp) (xs := [V.ref l1', V.ref l2, V.non, V.ref l3])) (fun i σ' G => ∃ v12, σ' = σX a (some (.ref tl)) w2 (some (.ref pL)) (some (.ref ca)) (some (.ref q)) (some (.ref gL)) (some (.int d.pr)) w8 w9 w10 w11 v12 none ∧ Same G6 G)
        ⟨none, rfl, Same.refl G6⟩ (fun i σ' G _ hh => by obtain ⟨_, _, s⟩ := hh; exact SqT.of (s _ _ htp)) ?_ ?_⟩
      · rintro i y σ' G G' hi ⟨v12, rfl, sG⟩ ⟨eH, hy⟩
        obtain rfl : G = G' := eH.symm
        refine ⟨_, rfl, y, rfl, .inr ⟨hbad y (List.mem_of_getElem? hy) G sG, fun dd H' sH hdd => ?_⟩⟩
        refine ⟨true, L.exm, fun _ ea hea => ?_, fun z => by cases z⟩
        refine ⟨_, rfl, rfl, rfl, dd, bpD, .non, rfl, hdd, rfl, rfl, _, rfl, ?_⟩
        rw [show (!decide (V.non = V.non)) = false by rw [decide_eq_true rfl]; rfl]
        exact iteF ⟨_, rfl, sG.trans sH⟩
      · rintro σ' G ⟨v12, rfl, sG⟩
        exact s06.trans sG
    rintro σ10 H10 s10
    have hT10 := ls9.tab.ext s10
    refine rd_l0 fun p0 H11 np0 s11 hp0 => ?_
    refine ⟨.ref p0, rfl, .inl ⟨p0, [], [], 0, rfl, hp0, ⟨Al.nil, List.nodup_nil, fun d hd => (by cases hd), Nat.zero_le _⟩, by decide, hT10.ext s11, fun H12 ec ch T12 => ⟨fun _ => ⟨rfl, ?_⟩, fun pl d q ag hd => (by simp at hd)⟩⟩⟩
    rw [show decide (V.non = V.non) = true from decide_eq_true rfl]
    exact k _
end
end K3
namespace K3
open PySem PySem.Spec PyProof.Rows L2
/-! ### what the program's top has left -/
theorem kit_me {K : PySem.W.Frag} {C : Addr} : PySem.W.kitOne K (.ref C) (.ref C) = some true := by
  unfold PySem.W.kitOne
  rw [if_pos (show ((Value.ref C == Value.ref C) = true) by simp)]
theorem kit_int {K : PySem.W.Frag} {C : Addr} (h1 : PySem.W.isClsIn K C = true) (h2 : PySem.W.typeIn K (.ref C) = some (.type "type")) (h3 : PySem.W.subIn K (.type "int") (.ref C) = some false) : PySem.W.kitOne K (.type "int") (.ref C) = some false := by
  have e : ((PySem.W.clsIn K C).isSome && PySem.W.typeIn K (.ref C) == some (.type "type")) = true := by
    have h1' : (PySem.W.clsIn K C).isSome = true := h1
    rw [h1', h2] <;> rfl
  unfold PySem.W.kitOne PySem.W.kitCls
  rw [if_neg (show ¬ ((Value.type "int" == Value.ref C) = true) from Bool.false_ne_true)]
  show (if ((PySem.W.clsIn K C).isSome && PySem.W.typeIn K (.ref C) == some (.type "type")) = true then PySem.W.subIn K (.type "int") (.ref C) else none) = some false
  rw [if_pos e]
  exact h3
theorem kit_tup {K : PySem.W.Frag} {C : Addr} (h3 : PySem.W.subIn K (.ref C) (.type "tuple") = some false) : PySem.W.kitOne K (.ref C) (.type "tuple") = some false := by
  unfold PySem.W.kitOne PySem.W.kitCls
  rw [if_neg (show ¬ ((Value.ref C == Value.type "tuple") = true) from Bool.false_ne_true)]
  show (if PySem.W.kitMeta "tuple" = true then PySem.W.subIn K (.ref C) (.type "tuple") else none) = some false
  rw [if_pos (by decide +kernel)]
  exact h3
theorem exm_me {K : PySem.W.Frag} {S : Addr} (h1 : PySem.W.subIn K (.ref S) (.type "BaseException") = some true) (h2 : PySem.W.isClsIn K S = true) (h3 : PySem.W.typeIn K (.ref S) = some (.type "type")) (h4 : PySem.W.subIn K (.ref S) (.ref S) = some true) :
    PySem.W.exmOne K (.ref S) (.ref S) = some true := by
  have e : ((PySem.W.clsIn K S).isSome && PySem.W.typeIn K (.ref S) == some (.type "type")) = true := by
    have h2' : (PySem.W.clsIn K S).isSome = true := h2
    rw [h2', h3] <;> rfl
  unfold PySem.W.exmOne PySem.W.kitCls
  rw [if_pos (show ((PySem.W.subIn K (.ref S) (.type "BaseException") == some true) = true) by rw [h1] <;> rfl)]
  show (if ((PySem.W.clsIn K S).isSome && PySem.W.typeIn K (.ref S) == some (.type "type")) = true then PySem.W.subIn K (.ref S) (.ref S) else none) = some true
  rw [if_pos e]
  exact h4
/-- the law's promise, and where the code of cheapest_right keeps its table -/
def HasLaw (l : PySem.W.OpenLaw) (w : World) (K : PySem.W.Frag) (mg : Str → Option Value) (fa : Addr) : Prop :=
  ∃ (fd : FuncData) (f c PT : Addr) (o : Obj) (fd1 : FuncData) (e : Value) (dd : Option Addr) (vs : Array Value) (sl : Array (Option Value)), mg "cheapest_right" = some (.ref f) ∧ K.lookup f = some o ∧ o.data = .func fd1 ∧ fd1.code = .ref c ∧ K.lookup c = some ⟨e, dd, .fields vs, sl⟩ ∧ vs[11]? = some (.ref PT) ∧ K.lookup PT = none ∧
    (∀ (s : Shared) (v : Value), BindsTo s fd ⟨[v], []⟩ [("script", v)]) ∧ ∀ base : Heap, K.In base → base.Ns mainGlobals mg → LamX.TabB base mg c PT → FnOk l.prog w K mg base CX0 7 fa fd ["script"] (spLaw K PT)
set_option maxHeartbeats 0 in
theorem all_mk {l : PySem.W.OpenLaw} {w : World} {K : PySem.W.Frag} {h : Heap} {mg : Str → Option Value} {fa C CL CR CW CC CB BB cC PT : Addr} (X : K.In h) (G : h.Ns mainGlobals mg) (hfa : mg "law" = some (.ref fa))
    {fNum : Addr} {odNum anNum : Option Addr} {slNum : Array (Option Value)} {ocNum kVNum dcNum pmNum cdNum ctNum : Value}
    {fCan : Addr} {odCan anCan : Option Addr} {slCan : Array (Option Value)} {ocCan kVCan dcCan pmCan cdCan ctCan : Value}
    {fHeld : Addr} {odHeld anHeld : Option Addr} {slHeld : Array (Option Value)} {ocHeld kVHeld dcHeld pmHeld cdHeld ctHeld : Value}
    {fGrown : Addr} {odGrown anGrown : Option Addr} {slGrown : Array (Option Value)} {ocGrown kVGrown dcGrown pmGrown cdGrown ctGrown : Value}
    {fAged : Addr} {odAged anAged : Option Addr} {slAged : Array (Option Value)} {ocAged kVAged dcAged pmAged cdAged ctAged : Value}
    {fEnded : Addr} {odEnded anEnded : Option Addr} {slEnded : Array (Option Value)} {ocEnded kVEnded dcEnded pmEnded cdEnded ctEnded : Value}
    {fREnt : Addr} {odREnt anREnt : Option Addr} {slREnt : Array (Option Value)} {ocREnt kVREnt dcREnt pmREnt cdREnt ctREnt : Value}
    {fPut : Addr} {odPut anPut : Option Addr} {slPut : Array (Option Value)} {ocPut kVPut dcPut pmPut cdPut ctPut : Value}
    {fAreK : Addr} {odAreK anAreK : Option Addr} {slAreK : Array (Option Value)} {ocAreK kVAreK dcAreK pmAreK cdAreK ctAreK : Value}
    {fIsKW : Addr} {odIsKW anIsKW : Option Addr} {slIsKW : Array (Option Value)} {ocIsKW kVIsKW dcIsKW pmIsKW cdIsKW ctIsKW : Value}
    {fIsK : Addr} {odIsK anIsK : Option Addr} {slIsK : Array (Option Value)} {ocIsK kVIsK dcIsK pmIsK cdIsK ctIsK : Value}
    {fCheckP : Addr} {odCheckP anCheckP : Option Addr} {slCheckP : Array (Option Value)} {ocCheckP kVCheckP dcCheckP pmCheckP cdCheckP ctCheckP : Value}
    {fPlayed : Addr} {odPlayed anPlayed : Option Addr} {slPlayed : Array (Option Value)} {ocPlayed kVPlayed dcPlayed pmPlayed cdPlayed ctPlayed : Value}
    {fPlain : Addr} {odPlain anPlain : Option Addr} {slPlain : Array (Option Value)} {ocPlain kVPlain dcPlain pmPlain cdPlain ctPlain : Value}
    {fCopied : Addr} {odCopied anCopied : Option Addr} {slCopied : Array (Option Value)} {ocCopied kVCopied dcCopied pmCopied cdCopied ctCopied : Value}
    {fNeed : Addr} {odNeed anNeed : Option Addr} {slNeed : Array (Option Value)} {ocNeed kVNeed dcNeed pmNeed cdNeed ctNeed : Value}
    {fChkCh : Addr} {odChkCh anChkCh : Option Addr} {slChkCh : Array (Option Value)} {ocChkCh kVChkCh dcChkCh pmChkCh cdChkCh ctChkCh : Value}
    {fIsCh : Addr} {odIsCh anIsCh : Option Addr} {slIsCh : Array (Option Value)} {ocIsCh kVIsCh dcIsCh pmIsCh cdIsCh ctIsCh : Value}
    {fCheaper : Addr} {odCheaper anCheaper : Option Addr} {slCheaper : Array (Option Value)} {ocCheaper kVCheaper dcCheaper pmCheaper cdCheaper ctCheaper : Value}
    {fJudge : Addr} {odJudge anJudge : Option Addr} {slJudge : Array (Option Value)} {ocJudge kVJudge dcJudge pmJudge cdJudge ctJudge : Value}
    {fProgTo : Addr} {odProgTo anProgTo : Option Addr} {slProgTo : Array (Option Value)} {ocProgTo kVProgTo dcProgTo pmProgTo cdProgTo ctProgTo : Value}
    {fIsRight : Addr} {odIsRight anIsRight : Option Addr} {slIsRight : Array (Option Value)} {ocIsRight kVIsRight dcIsRight pmIsRight cdIsRight ctIsRight : Value}
    {fDraw : Addr} {odDraw anDraw : Option Addr} {slDraw : Array (Option Value)} {ocDraw kVDraw dcDraw pmDraw cdDraw ctDraw : Value}
    {fSet : Addr} {odSet anSet : Option Addr} {slSet : Array (Option Value)} {ocSet kVSet dcSet pmSet cdSet ctSet : Value}
    {fPipe : Addr} {odPipe anPipe : Option Addr} {slPipe : Array (Option Value)} {ocPipe kVPipe dcPipe pmPipe cdPipe ctPipe : Value}
    {fThere : Addr} {odThere anThere : Option Addr} {slThere : Array (Option Value)} {ocThere kVThere dcThere pmThere cdThere ctThere : Value}
    {fLast : Addr} {odLast anLast : Option Addr} {slLast : Array (Option Value)} {ocLast kVLast dcLast pmLast cdLast ctLast : Value}
    {fLHeld : Addr} {odLHeld anLHeld : Option Addr} {slLHeld : Array (Option Value)} {ocLHeld kVLHeld dcLHeld pmLHeld cdLHeld ctLHeld : Value}
    {fRead : Addr} {odRead anRead : Option Addr} {slRead : Array (Option Value)} {ocRead kVRead dcRead pmRead cdRead ctRead : Value}
    {fLPlayed : Addr} {odLPlayed anLPlayed : Option Addr} {slLPlayed : Array (Option Value)} {ocLPlayed kVLPlayed dcLPlayed pmLPlayed cdLPlayed ctLPlayed : Value}
    {fLPlain : Addr} {odLPlain anLPlain : Option Addr} {slLPlain : Array (Option Value)} {ocLPlain kVLPlain dcLPlain pmLPlain cdLPlain ctLPlain : Value}
    {fLaw : Addr} {odLaw anLaw : Option Addr} {slLaw : Array (Option Value)} {ocLaw kVLaw dcLaw pmLaw cdLaw ctLaw : Value}
    {fCheapest : Addr} {odCheapest anCheapest : Option Addr} {slCheapest : Array (Option Value)} {ocCheapest kVCheapest dcCheapest pmCheapest ctCheapest : Value}
    {fInit : Addr} {odInit anInit : Option Addr} {slInit : Array (Option Value)} {ocInit kVInit dcInit pmInit cdInit ctInit : Value}
    {fIsIns : Addr} {odIsIns anIsIns : Option Addr} {slIsIns : Array (Option Value)} {ocIsIns kVIsIns dcIsIns pmIsIns cdIsIns ctIsIns : Value}
    {fInss : Addr} {odInss anInss : Option Addr} {slInss : Array (Option Value)} {ocInss kVInss dcInss pmInss cdInss ctInss : Value}
    {fStart : Addr} {odStart anStart : Option Addr} {slStart : Array (Option Value)} {ocStart kVStart dcStart pmStart cdStart ctStart : Value}
    {fFollow : Addr} {odFollow anFollow : Option Addr} {slFollow : Array (Option Value)} {ocFollow kVFollow dcFollow pmFollow cdFollow ctFollow : Value}
    {fLater : Addr} {odLater anLater : Option Addr} {slLater : Array (Option Value)} {ocLater kVLater dcLater pmLater cdLater ctLater : Value}
    {fEnds : Addr} {odEnds anEnds : Option Addr} {slEnds : Array (Option Value)} {ocEnds kVEnds dcEnds pmEnds cdEnds ctEnds : Value}
    {fPlInit : Addr} {odPlInit anPlInit : Option Addr} {slPlInit : Array (Option Value)} {ocPlInit kVPlInit dcPlInit pmPlInit cdPlInit ctPlInit : Value}
    {fRInit : Addr} {odRInit anRInit : Option Addr} {slRInit : Array (Option Value)} {ocRInit kVRInit dcRInit pmRInit cdRInit ctRInit : Value}
    {fRBool : Addr} {odRBool anRBool : Option Addr} {slRBool : Array (Option Value)} {ocRBool kVRBool dcRBool pmRBool cdRBool ctRBool : Value}
    {fWInit : Addr} {odWInit anWInit : Option Addr} {slWInit : Array (Option Value)} {ocWInit kVWInit dcWInit pmWInit cdWInit ctWInit : Value}
    {fWBool : Addr} {odWBool anWBool : Option Addr} {slWBool : Array (Option Value)} {ocWBool kVWBool dcWBool pmWBool cdWBool ctWBool : Value}
    {fChInit : Addr} {odChInit anChInit : Option Addr} {slChInit : Array (Option Value)} {ocChInit kVChInit dcChInit pmChInit cdChInit ctChInit : Value}
    {fChShows : Addr} {odChShows anChShows : Option Addr} {slChShows : Array (Option Value)} {ocChShows kVChShows dcChShows pmChShows cdChShows ctChShows : Value}
    {fBadPipeInit : Addr} {odBadPipeInit anBadPipeInit : Option Addr} {slBadPipeInit : Array (Option Value)} {ocBadPipeInit kVBadPipeInit dcBadPipeInit pmBadPipeInit cdBadPipeInit ctBadPipeInit : Value}
    {tW tP tG tJ tL tm1 tm2 tm3 tm4 tm5 tm6 : Tok}
    {nmB qB : Str} {NB : Addr} {bsB bmB : List Value} {snB : List Str} {subB : List Value} {abB : Bool} {colB : Option Bool} {ddB : Option Addr} {m0B m1B m2B m3B m5B : Option Value}
    {ecC : Value} {dcC : Option Addr} {vsC : Array Value} {slC : Array (Option Value)}
    (aC : PySem.W.nsIn K mainGlobals "Pipe" = some (some (.ref C)))
    (aCL : PySem.W.nsIn K mainGlobals "Played" = some (some (.ref CL)))
    (aCR : PySem.W.nsIn K mainGlobals "Right" = some (some (.ref CR)))
    (aCW : PySem.W.nsIn K mainGlobals "Wrong" = some (some (.ref CW)))
    (aCC : PySem.W.nsIn K mainGlobals "Chosen" = some (some (.ref CC)))
    (aCB : PySem.W.nsIn K mainGlobals "BadPipe" = some (some (.ref CB)))
    (aBB : PySem.W.nsIn K mainGlobals "BeatError" = some (some (.ref BB)))
    (aNum : PySem.W.nsIn K mainGlobals "is_number" = some (some (.ref fNum)))
    (lNum : K.lookup fNum = some ⟨ocNum, odNum, .func (PySem.W.fnOf "is_number" "is_number" (defArgs sNum) (defBody sNum) (defScope sNum) .none kVNum dcNum pmNum anNum cdNum ctNum), slNum⟩)
    (cNum : PySem.W.codeIn K cdNum "is_number" = true)
    (kNum : PySem.W.keepIn K (.ref fNum) = true)
    (aCan : PySem.W.nsIn K mainGlobals "can_be_read" = some (some (.ref fCan)))
    (lCan : K.lookup fCan = some ⟨ocCan, odCan, .func (PySem.W.fnOf "can_be_read" "can_be_read" (defArgs sCan) (defBody sCan) (defScope sCan) .none kVCan dcCan pmCan anCan cdCan ctCan), slCan⟩)
    (cCan : PySem.W.codeIn K cdCan "can_be_read" = true)
    (kCan : PySem.W.keepIn K (.ref fCan) = true)
    (aHeld : PySem.W.nsIn K mainGlobals "is_held" = some (some (.ref fHeld)))
    (lHeld : K.lookup fHeld = some ⟨ocHeld, odHeld, .func (PySem.W.fnOf "is_held" "is_held" (defArgs sHeld) (defBody sHeld) (defScope sHeld) .none kVHeld dcHeld pmHeld anHeld cdHeld ctHeld), slHeld⟩)
    (cHeld : PySem.W.codeIn K cdHeld "is_held" = true)
    (kHeld : PySem.W.keepIn K (.ref fHeld) = true)
    (aGrown : PySem.W.nsIn K mainGlobals "grown" = some (some (.ref fGrown)))
    (lGrown : K.lookup fGrown = some ⟨ocGrown, odGrown, .func (PySem.W.fnOf "grown" "grown" (defArgs sGrown) (defBody sGrown) (defScope sGrown) .none kVGrown dcGrown pmGrown anGrown cdGrown ctGrown), slGrown⟩)
    (cGrown : PySem.W.codeIn K cdGrown "grown" = true)
    (kGrown : PySem.W.keepIn K (.ref fGrown) = true)
    (aAged : PySem.W.nsIn K mainGlobals "aged" = some (some (.ref fAged)))
    (lAged : K.lookup fAged = some ⟨ocAged, odAged, .func (PySem.W.fnOf "aged" "aged" (defArgs sAged) (defBody sAged) (defScope sAged) .none kVAged dcAged pmAged anAged cdAged ctAged), slAged⟩)
    (cAged : PySem.W.codeIn K cdAged "aged" = true)
    (kAged : PySem.W.keepIn K (.ref fAged) = true)
    (aEnded : PySem.W.nsIn K mainGlobals "ended" = some (some (.ref fEnded)))
    (lEnded : K.lookup fEnded = some ⟨ocEnded, odEnded, .func (PySem.W.fnOf "ended" "ended" (defArgs sEnded) (defBody sEnded) (defScope sEnded) .none kVEnded dcEnded pmEnded anEnded cdEnded ctEnded), slEnded⟩)
    (cEnded : PySem.W.codeIn K cdEnded "ended" = true)
    (kEnded : PySem.W.keepIn K (.ref fEnded) = true)
    (aREnt : PySem.W.nsIn K mainGlobals "read_entry" = some (some (.ref fREnt)))
    (lREnt : K.lookup fREnt = some ⟨ocREnt, odREnt, .func (PySem.W.fnOf "read_entry" "read_entry" (defArgs sREnt) (defBody sREnt) (defScope sREnt) .none kVREnt dcREnt pmREnt anREnt cdREnt ctREnt), slREnt⟩)
    (cREnt : PySem.W.codeIn K cdREnt "read_entry" = true)
    (kREnt : PySem.W.keepIn K (.ref fREnt) = true)
    (aPut : PySem.W.nsIn K mainGlobals "put_under_way" = some (some (.ref fPut)))
    (lPut : K.lookup fPut = some ⟨ocPut, odPut, .func (PySem.W.fnOf "put_under_way" "put_under_way" (defArgs sPut) (defBody sPut) (defScope sPut) .none kVPut dcPut pmPut anPut cdPut ctPut), slPut⟩)
    (cPut : PySem.W.codeIn K cdPut "put_under_way" = true)
    (kPut : PySem.W.keepIn K (.ref fPut) = true)
    (aAreK : PySem.W.nsIn K mainGlobals "are_kinds" = some (some (.ref fAreK)))
    (lAreK : K.lookup fAreK = some ⟨ocAreK, odAreK, .func (PySem.W.fnOf "are_kinds" "are_kinds" (defArgs sAreK) (defBody sAreK) (defScope sAreK) .none kVAreK dcAreK pmAreK anAreK cdAreK ctAreK), slAreK⟩)
    (cAreK : PySem.W.codeIn K cdAreK "are_kinds" = true)
    (kAreK : PySem.W.keepIn K (.ref fAreK) = true)
    (aIsKW : PySem.W.nsIn K mainGlobals "is_word" = some (some (.ref fIsKW)))
    (lIsKW : K.lookup fIsKW = some ⟨ocIsKW, odIsKW, .func (PySem.W.fnOf "is_word" "is_word" (defArgs sIsKW) (defBody sIsKW) (defScope sIsKW) .none kVIsKW dcIsKW pmIsKW anIsKW cdIsKW ctIsKW), slIsKW⟩)
    (cIsKW : PySem.W.codeIn K cdIsKW "is_word" = true)
    (kIsKW : PySem.W.keepIn K (.ref fIsKW) = true)
    (aIsK : PySem.W.nsIn K mainGlobals "is_kind" = some (some (.ref fIsK)))
    (lIsK : K.lookup fIsK = some ⟨ocIsK, odIsK, .func (PySem.W.fnOf "is_kind" "is_kind" (defArgs sIsK) (defBody sIsK) (defScope sIsK) .none kVIsK dcIsK pmIsK anIsK cdIsK ctIsK), slIsK⟩)
    (cIsK : PySem.W.codeIn K cdIsK "is_kind" = true)
    (kIsK : PySem.W.keepIn K (.ref fIsK) = true)
    (aCheckP : PySem.W.nsIn K mainGlobals "check_program" = some (some (.ref fCheckP)))
    (lCheckP : K.lookup fCheckP = some ⟨ocCheckP, odCheckP, .func (PySem.W.fnOf "check_program" "check_program" (defArgs sCheckP) (defBody sCheckP) (defScope sCheckP) .none kVCheckP dcCheckP pmCheckP anCheckP cdCheckP ctCheckP), slCheckP⟩)
    (cCheckP : PySem.W.codeIn K cdCheckP "check_program" = true)
    (kCheckP : PySem.W.keepIn K (.ref fCheckP) = true)
    (aPlayed : PySem.W.nsIn K mainGlobals "played" = some (some (.ref fPlayed)))
    (lPlayed : K.lookup fPlayed = some ⟨ocPlayed, odPlayed, .func (PySem.W.fnOf "played" "played" (defArgs sPlayed) (defBody sPlayed) (defScope sPlayed) .none kVPlayed dcPlayed pmPlayed anPlayed cdPlayed ctPlayed), slPlayed⟩)
    (cPlayed : PySem.W.codeIn K cdPlayed "played" = true)
    (kPlayed : PySem.W.keepIn K (.ref fPlayed) = true)
    (aPlain : PySem.W.nsIn K mainGlobals "plain_reads" = some (some (.ref fPlain)))
    (lPlain : K.lookup fPlain = some ⟨ocPlain, odPlain, .func (PySem.W.fnOf "plain_reads" "plain_reads" (defArgs sPlain) (defBody sPlain) (defScope sPlain) .none kVPlain dcPlain pmPlain anPlain cdPlain ctPlain), slPlain⟩)
    (cPlain : PySem.W.codeIn K cdPlain "plain_reads" = true)
    (kPlain : PySem.W.keepIn K (.ref fPlain) = true)
    (aCopied : PySem.W.nsIn K mainGlobals "copied_program" = some (some (.ref fCopied)))
    (lCopied : K.lookup fCopied = some ⟨ocCopied, odCopied, .func (PySem.W.fnOf "copied_program" "copied_program" (defArgs sCopied) (defBody sCopied) (defScope sCopied) .none kVCopied dcCopied pmCopied anCopied cdCopied ctCopied), slCopied⟩)
    (cCopied : PySem.W.codeIn K cdCopied "copied_program" = true)
    (kCopied : PySem.W.keepIn K (.ref fCopied) = true)
    (aNeed : PySem.W.nsIn K mainGlobals "need_pipe" = some (some (.ref fNeed)))
    (lNeed : K.lookup fNeed = some ⟨ocNeed, odNeed, .func (PySem.W.fnOf "need_pipe" "need_pipe" (defArgs sNeed) (defBody sNeed) (defScope sNeed) .none kVNeed dcNeed pmNeed anNeed cdNeed ctNeed), slNeed⟩)
    (cNeed : PySem.W.codeIn K cdNeed "need_pipe" = true)
    (kNeed : PySem.W.keepIn K (.ref fNeed) = true)
    (aChkCh : PySem.W.nsIn K mainGlobals "check_choices" = some (some (.ref fChkCh)))
    (lChkCh : K.lookup fChkCh = some ⟨ocChkCh, odChkCh, .func (PySem.W.fnOf "check_choices" "check_choices" (defArgs sChkCh) (defBody sChkCh) (defScope sChkCh) .none kVChkCh dcChkCh pmChkCh anChkCh cdChkCh ctChkCh), slChkCh⟩)
    (cChkCh : PySem.W.codeIn K cdChkCh "check_choices" = true)
    (kChkCh : PySem.W.keepIn K (.ref fChkCh) = true)
    (aIsCh : PySem.W.nsIn K mainGlobals "is_choice" = some (some (.ref fIsCh)))
    (lIsCh : K.lookup fIsCh = some ⟨ocIsCh, odIsCh, .func (PySem.W.fnOf "is_choice" "is_choice" (defArgs sIsCh) (defBody sIsCh) (defScope sIsCh) .none kVIsCh dcIsCh pmIsCh anIsCh cdIsCh ctIsCh), slIsCh⟩)
    (cIsCh : PySem.W.codeIn K cdIsCh "is_choice" = true)
    (kIsCh : PySem.W.keepIn K (.ref fIsCh) = true)
    (aCheaper : PySem.W.nsIn K mainGlobals "cheaper_places" = some (some (.ref fCheaper)))
    (lCheaper : K.lookup fCheaper = some ⟨ocCheaper, odCheaper, .func (PySem.W.fnOf "cheaper_places" "cheaper_places" (defArgs sCheaper) (defBody sCheaper) (defScope sCheaper) .none kVCheaper dcCheaper pmCheaper anCheaper cdCheaper ctCheaper), slCheaper⟩)
    (cCheaper : PySem.W.codeIn K cdCheaper "cheaper_places" = true)
    (kCheaper : PySem.W.keepIn K (.ref fCheaper) = true)
    (aJudge : PySem.W.nsIn K mainGlobals "judge_pipe" = some (some (.ref fJudge)))
    (lJudge : K.lookup fJudge = some ⟨ocJudge, odJudge, .func (PySem.W.fnOf "judge_pipe" "judge_pipe" (defArgs sJudge) (defBody sJudge) (defScope sJudge) .none kVJudge dcJudge pmJudge anJudge cdJudge ctJudge), slJudge⟩)
    (cJudge : PySem.W.codeIn K cdJudge "judge_pipe" = true)
    (kJudge : PySem.W.keepIn K (.ref fJudge) = true)
    (aProgTo : PySem.W.nsIn K mainGlobals "program_to" = some (some (.ref fProgTo)))
    (lProgTo : K.lookup fProgTo = some ⟨ocProgTo, odProgTo, .func (PySem.W.fnOf "program_to" "program_to" (defArgs sProgTo) (defBody sProgTo) (defScope sProgTo) .none kVProgTo dcProgTo pmProgTo anProgTo cdProgTo ctProgTo), slProgTo⟩)
    (cProgTo : PySem.W.codeIn K cdProgTo "program_to" = true)
    (kProgTo : PySem.W.keepIn K (.ref fProgTo) = true)
    (aIsRight : PySem.W.nsIn K mainGlobals "is_right" = some (some (.ref fIsRight)))
    (lIsRight : K.lookup fIsRight = some ⟨ocIsRight, odIsRight, .func (PySem.W.fnOf "is_right" "is_right" (defArgs sIsRight) (defBody sIsRight) (defScope sIsRight) .none kVIsRight dcIsRight pmIsRight anIsRight cdIsRight ctIsRight), slIsRight⟩)
    (cIsRight : PySem.W.codeIn K cdIsRight "is_right" = true)
    (kIsRight : PySem.W.keepIn K (.ref fIsRight) = true)
    (aDraw : PySem.W.nsIn K mainGlobals "_law_draw" = some (some (.ref fDraw)))
    (lDraw : K.lookup fDraw = some ⟨ocDraw, odDraw, .func (PySem.W.fnOf "_law_draw" "_law_draw" (defArgs sDraw) (defBody sDraw) (defScope sDraw) .none kVDraw dcDraw pmDraw anDraw cdDraw ctDraw), slDraw⟩)
    (cDraw : PySem.W.codeIn K cdDraw "_law_draw" = true)
    (kDraw : PySem.W.keepIn K (.ref fDraw) = true)
    (aSet : PySem.W.nsIn K mainGlobals "_law_settings" = some (some (.ref fSet)))
    (lSet : K.lookup fSet = some ⟨ocSet, odSet, .func (PySem.W.fnOf "_law_settings" "_law_settings" (defArgs sSet) (defBody sSet) (defScope sSet) .none kVSet dcSet pmSet anSet cdSet ctSet), slSet⟩)
    (cSet : PySem.W.codeIn K cdSet "_law_settings" = true)
    (kSet : PySem.W.keepIn K (.ref fSet) = true)
    (aPipe : PySem.W.nsIn K mainGlobals "_law_pipe" = some (some (.ref fPipe)))
    (lPipe : K.lookup fPipe = some ⟨ocPipe, odPipe, .func (PySem.W.fnOf "_law_pipe" "_law_pipe" (defArgs sPipe) (defBody sPipe) (defScope sPipe) .none kVPipe dcPipe pmPipe anPipe cdPipe ctPipe), slPipe⟩)
    (cPipe : PySem.W.codeIn K cdPipe "_law_pipe" = true)
    (kPipe : PySem.W.keepIn K (.ref fPipe) = true)
    (aThere : PySem.W.nsIn K mainGlobals "_law_there" = some (some (.ref fThere)))
    (lThere : K.lookup fThere = some ⟨ocThere, odThere, .func (PySem.W.fnOf "_law_there" "_law_there" (defArgs sThere) (defBody sThere) (defScope sThere) .none kVThere dcThere pmThere anThere cdThere ctThere), slThere⟩)
    (cThere : PySem.W.codeIn K cdThere "_law_there" = true)
    (kThere : PySem.W.keepIn K (.ref fThere) = true)
    (aLast : PySem.W.nsIn K mainGlobals "_law_last" = some (some (.ref fLast)))
    (lLast : K.lookup fLast = some ⟨ocLast, odLast, .func (PySem.W.fnOf "_law_last" "_law_last" (defArgs sLast) (defBody sLast) (defScope sLast) .none kVLast dcLast pmLast anLast cdLast ctLast), slLast⟩)
    (cLast : PySem.W.codeIn K cdLast "_law_last" = true)
    (kLast : PySem.W.keepIn K (.ref fLast) = true)
    (aLHeld : PySem.W.nsIn K mainGlobals "_law_held" = some (some (.ref fLHeld)))
    (lLHeld : K.lookup fLHeld = some ⟨ocLHeld, odLHeld, .func (PySem.W.fnOf "_law_held" "_law_held" (defArgs sLHeld) (defBody sLHeld) (defScope sLHeld) .none kVLHeld dcLHeld pmLHeld anLHeld cdLHeld ctLHeld), slLHeld⟩)
    (cLHeld : PySem.W.codeIn K cdLHeld "_law_held" = true)
    (kLHeld : PySem.W.keepIn K (.ref fLHeld) = true)
    (aRead : PySem.W.nsIn K mainGlobals "_law_read" = some (some (.ref fRead)))
    (lRead : K.lookup fRead = some ⟨ocRead, odRead, .func (PySem.W.fnOf "_law_read" "_law_read" (defArgs sRead) (defBody sRead) (defScope sRead) .none kVRead dcRead pmRead anRead cdRead ctRead), slRead⟩)
    (cRead : PySem.W.codeIn K cdRead "_law_read" = true)
    (kRead : PySem.W.keepIn K (.ref fRead) = true)
    (aLPlayed : PySem.W.nsIn K mainGlobals "_law_played" = some (some (.ref fLPlayed)))
    (lLPlayed : K.lookup fLPlayed = some ⟨ocLPlayed, odLPlayed, .func (PySem.W.fnOf "_law_played" "_law_played" (defArgs sLPlayed) (defBody sLPlayed) (defScope sLPlayed) .none kVLPlayed dcLPlayed pmLPlayed anLPlayed cdLPlayed ctLPlayed), slLPlayed⟩)
    (cLPlayed : PySem.W.codeIn K cdLPlayed "_law_played" = true)
    (kLPlayed : PySem.W.keepIn K (.ref fLPlayed) = true)
    (aLPlain : PySem.W.nsIn K mainGlobals "_law_plain" = some (some (.ref fLPlain)))
    (lLPlain : K.lookup fLPlain = some ⟨ocLPlain, odLPlain, .func (PySem.W.fnOf "_law_plain" "_law_plain" (defArgs sLPlain) (defBody sLPlain) (defScope sLPlain) .none kVLPlain dcLPlain pmLPlain anLPlain cdLPlain ctLPlain), slLPlain⟩)
    (cLPlain : PySem.W.codeIn K cdLPlain "_law_plain" = true)
    (kLPlain : PySem.W.keepIn K (.ref fLPlain) = true)
    (aLaw : PySem.W.nsIn K mainGlobals "law" = some (some (.ref fLaw)))
    (lLaw : K.lookup fLaw = some ⟨ocLaw, odLaw, .func (PySem.W.fnOf "law" "law" (defArgs sLaw) (defBody sLaw) (defScope sLaw) .none kVLaw dcLaw pmLaw anLaw cdLaw ctLaw), slLaw⟩)
    (cLaw : PySem.W.codeIn K cdLaw "law" = true)
    (kLaw : PySem.W.keepIn K (.ref fLaw) = true)
    (aCheapest : PySem.W.nsIn K mainGlobals "cheapest_right" = some (some (.ref fCheapest)))
    (lCheapest : K.lookup fCheapest = some ⟨ocCheapest, odCheapest, .func (PySem.W.fnOf "cheapest_right" "cheapest_right" (defArgs sCheapest) (defBody sCheapest) (defScope sCheapest) .none kVCheapest dcCheapest pmCheapest anCheapest (.ref cC) ctCheapest), slCheapest⟩)
    (cCheapest : PySem.W.codeIn K (.ref cC) "cheapest_right" = true)
    (kCheapest : PySem.W.keepIn K (.ref fCheapest) = true)
    (aInit : PySem.W.findIn K (.ref C) "__init__" = some (some (.ref fInit)))
    (iInit : PySem.W.isFn K (.ref fInit) = true)
    (lInit : K.lookup fInit = some ⟨ocInit, odInit, .func (PySem.W.fnOf "__init__" "Pipe.__init__" (defArgs sInit) (defBody sInit) (defScope sInit) .none kVInit dcInit pmInit anInit cdInit ctInit), slInit⟩)
    (cInit : PySem.W.codeIn K cdInit "Pipe.__init__" = true)
    (kInit : PySem.W.keepIn K (.ref fInit) = true)
    (aIsIns : PySem.W.findIn K (.ref C) "is_instruction" = some (some (.ref fIsIns)))
    (iIsIns : PySem.W.isFn K (.ref fIsIns) = true)
    (lIsIns : K.lookup fIsIns = some ⟨ocIsIns, odIsIns, .func (PySem.W.fnOf "is_instruction" "Pipe.is_instruction" (defArgs sIsIns) (defBody sIsIns) (defScope sIsIns) .none kVIsIns dcIsIns pmIsIns anIsIns cdIsIns ctIsIns), slIsIns⟩)
    (cIsIns : PySem.W.codeIn K cdIsIns "Pipe.is_instruction" = true)
    (kIsIns : PySem.W.keepIn K (.ref fIsIns) = true)
    (aInss : PySem.W.findIn K (.ref C) "instructions" = some (some (.ref fInss)))
    (iInss : PySem.W.isFn K (.ref fInss) = true)
    (lInss : K.lookup fInss = some ⟨ocInss, odInss, .func (PySem.W.fnOf "instructions" "Pipe.instructions" (defArgs sInss) (defBody sInss) (defScope sInss) .none kVInss dcInss pmInss anInss cdInss ctInss), slInss⟩)
    (cInss : PySem.W.codeIn K cdInss "Pipe.instructions" = true)
    (kInss : PySem.W.keepIn K (.ref fInss) = true)
    (aStart : PySem.W.findIn K (.ref C) "start" = some (some (.ref fStart)))
    (iStart : PySem.W.isFn K (.ref fStart) = true)
    (lStart : K.lookup fStart = some ⟨ocStart, odStart, .func (PySem.W.fnOf "start" "Pipe.start" (defArgs sStart) (defBody sStart) (defScope sStart) .none kVStart dcStart pmStart anStart cdStart ctStart), slStart⟩)
    (cStart : PySem.W.codeIn K cdStart "Pipe.start" = true)
    (kStart : PySem.W.keepIn K (.ref fStart) = true)
    (aFollow : PySem.W.findIn K (.ref C) "follow" = some (some (.ref fFollow)))
    (iFollow : PySem.W.isFn K (.ref fFollow) = true)
    (lFollow : K.lookup fFollow = some ⟨ocFollow, odFollow, .func (PySem.W.fnOf "follow" "Pipe.follow" (defArgs sFollow) (defBody sFollow) (defScope sFollow) .none kVFollow dcFollow pmFollow anFollow cdFollow ctFollow), slFollow⟩)
    (cFollow : PySem.W.codeIn K cdFollow "Pipe.follow" = true)
    (kFollow : PySem.W.keepIn K (.ref fFollow) = true)
    (aLater : PySem.W.findIn K (.ref C) "later" = some (some (.ref fLater)))
    (iLater : PySem.W.isFn K (.ref fLater) = true)
    (lLater : K.lookup fLater = some ⟨ocLater, odLater, .func (PySem.W.fnOf "later" "Pipe.later" (defArgs sLater) (defBody sLater) (defScope sLater) .none kVLater dcLater pmLater anLater cdLater ctLater), slLater⟩)
    (cLater : PySem.W.codeIn K cdLater "Pipe.later" = true)
    (kLater : PySem.W.keepIn K (.ref fLater) = true)
    (aEnds : PySem.W.findIn K (.ref C) "ends_right" = some (some (.ref fEnds)))
    (iEnds : PySem.W.isFn K (.ref fEnds) = true)
    (lEnds : K.lookup fEnds = some ⟨ocEnds, odEnds, .func (PySem.W.fnOf "ends_right" "Pipe.ends_right" (defArgs sEnds) (defBody sEnds) (defScope sEnds) .none kVEnds dcEnds pmEnds anEnds cdEnds ctEnds), slEnds⟩)
    (cEnds : PySem.W.codeIn K cdEnds "Pipe.ends_right" = true)
    (kEnds : PySem.W.keepIn K (.ref fEnds) = true)
    (aPlInit : PySem.W.findIn K (.ref CL) "__init__" = some (some (.ref fPlInit)))
    (iPlInit : PySem.W.isFn K (.ref fPlInit) = true)
    (lPlInit : K.lookup fPlInit = some ⟨ocPlInit, odPlInit, .func (PySem.W.fnOf "__init__" "Played.__init__" (defArgs sPlInit) (defBody sPlInit) (defScope sPlInit) .none kVPlInit dcPlInit pmPlInit anPlInit cdPlInit ctPlInit), slPlInit⟩)
    (cPlInit : PySem.W.codeIn K cdPlInit "Played.__init__" = true)
    (kPlInit : PySem.W.keepIn K (.ref fPlInit) = true)
    (aRInit : PySem.W.findIn K (.ref CR) "__init__" = some (some (.ref fRInit)))
    (iRInit : PySem.W.isFn K (.ref fRInit) = true)
    (lRInit : K.lookup fRInit = some ⟨ocRInit, odRInit, .func (PySem.W.fnOf "__init__" "Right.__init__" (defArgs sRInit) (defBody sRInit) (defScope sRInit) .none kVRInit dcRInit pmRInit anRInit cdRInit ctRInit), slRInit⟩)
    (cRInit : PySem.W.codeIn K cdRInit "Right.__init__" = true)
    (kRInit : PySem.W.keepIn K (.ref fRInit) = true)
    (aRBool : PySem.W.findIn K (.ref CR) "__bool__" = some (some (.ref fRBool)))
    (iRBool : PySem.W.isFn K (.ref fRBool) = true)
    (lRBool : K.lookup fRBool = some ⟨ocRBool, odRBool, .func (PySem.W.fnOf "__bool__" "Right.__bool__" (defArgs sRBool) (defBody sRBool) (defScope sRBool) .none kVRBool dcRBool pmRBool anRBool cdRBool ctRBool), slRBool⟩)
    (cRBool : PySem.W.codeIn K cdRBool "Right.__bool__" = true)
    (kRBool : PySem.W.keepIn K (.ref fRBool) = true)
    (aWInit : PySem.W.findIn K (.ref CW) "__init__" = some (some (.ref fWInit)))
    (iWInit : PySem.W.isFn K (.ref fWInit) = true)
    (lWInit : K.lookup fWInit = some ⟨ocWInit, odWInit, .func (PySem.W.fnOf "__init__" "Wrong.__init__" (defArgs sWInit) (defBody sWInit) (defScope sWInit) .none kVWInit dcWInit pmWInit anWInit cdWInit ctWInit), slWInit⟩)
    (cWInit : PySem.W.codeIn K cdWInit "Wrong.__init__" = true)
    (kWInit : PySem.W.keepIn K (.ref fWInit) = true)
    (aWBool : PySem.W.findIn K (.ref CW) "__bool__" = some (some (.ref fWBool)))
    (iWBool : PySem.W.isFn K (.ref fWBool) = true)
    (lWBool : K.lookup fWBool = some ⟨ocWBool, odWBool, .func (PySem.W.fnOf "__bool__" "Wrong.__bool__" (defArgs sWBool) (defBody sWBool) (defScope sWBool) .none kVWBool dcWBool pmWBool anWBool cdWBool ctWBool), slWBool⟩)
    (cWBool : PySem.W.codeIn K cdWBool "Wrong.__bool__" = true)
    (kWBool : PySem.W.keepIn K (.ref fWBool) = true)
    (aChInit : PySem.W.findIn K (.ref CC) "__init__" = some (some (.ref fChInit)))
    (iChInit : PySem.W.isFn K (.ref fChInit) = true)
    (lChInit : K.lookup fChInit = some ⟨ocChInit, odChInit, .func (PySem.W.fnOf "__init__" "Chosen.__init__" (defArgs sChInit) (defBody sChInit) (defScope sChInit) .none kVChInit dcChInit pmChInit anChInit cdChInit ctChInit), slChInit⟩)
    (cChInit : PySem.W.codeIn K cdChInit "Chosen.__init__" = true)
    (kChInit : PySem.W.keepIn K (.ref fChInit) = true)
    (aChShows : PySem.W.findIn K (.ref CC) "shows" = some (some (.ref fChShows)))
    (iChShows : PySem.W.isFn K (.ref fChShows) = true)
    (lChShows : K.lookup fChShows = some ⟨ocChShows, odChShows, .func (PySem.W.fnOf "shows" "Chosen.shows" (defArgs sChShows) (defBody sChShows) (defScope sChShows) .none kVChShows dcChShows pmChShows anChShows cdChShows ctChShows), slChShows⟩)
    (cChShows : PySem.W.codeIn K cdChShows "Chosen.shows" = true)
    (kChShows : PySem.W.keepIn K (.ref fChShows) = true)
    (aBadPipeInit : PySem.W.findIn K (.ref CB) "__init__" = some (some (.ref fBadPipeInit)))
    (iBadPipeInit : PySem.W.typeIn K (.ref fBadPipeInit) = some (.type "function"))
    (lBadPipeInit : K.lookup fBadPipeInit = some ⟨ocBadPipeInit, odBadPipeInit, .func (PySem.W.fnOf "__init__" "BadPipe.__init__" (defArgs sBadPipeInit) (defBody sBadPipeInit) (defScope sBadPipeInit) .none kVBadPipeInit dcBadPipeInit pmBadPipeInit anBadPipeInit cdBadPipeInit ctBadPipeInit), slBadPipeInit⟩)
    (cBadPipeInit : PySem.W.codeIn K cdBadPipeInit "BadPipe.__init__" = true)
    (kBadPipeInit : PySem.W.keepIn K (.ref fBadPipeInit) = true)
    (pgC : PySem.W.plainGet K C Str.empty = true)
    (hdC : PySem.W.hasDictIn K C = true)
    (poC : PySem.W.plainOver K C = true)
    (saC : PySem.W.findIn K (.ref C) "__setattr__" = some (some (.builtin "object.__setattr__")))
    (mkC : PySem.W.makesIn K C = true)
    (kcC : PySem.W.keepIn K (.ref C) = true)
    (nC0 : PySem.W.findIn K (.ref C) "registers" = some none)
    (nC1 : PySem.W.findIn K (.ref C) "kinds" = some none)
    (nC2 : PySem.W.findIn K (.ref C) "holds" = some none)
    (nC3 : PySem.W.findIn K (.ref C) "orders" = some none)
    (nC4 : PySem.W.findIn K (.ref C) "_aged" = some none)
    (pgCL : PySem.W.plainGet K CL Str.empty = true)
    (hdCL : PySem.W.hasDictIn K CL = true)
    (poCL : PySem.W.plainOver K CL = true)
    (saCL : PySem.W.findIn K (.ref CL) "__setattr__" = some (some (.builtin "object.__setattr__")))
    (mkCL : PySem.W.makesIn K CL = true)
    (kcCL : PySem.W.keepIn K (.ref CL) = true)
    (nCL0 : PySem.W.findIn K (.ref CL) "held" = some none)
    (nCL1 : PySem.W.findIn K (.ref CL) "reads" = some none)
    (nCL2 : PySem.W.findIn K (.ref CL) "ends" = some none)
    (pgCR : PySem.W.plainGet K CR Str.empty = true)
    (hdCR : PySem.W.hasDictIn K CR = true)
    (poCR : PySem.W.plainOver K CR = true)
    (saCR : PySem.W.findIn K (.ref CR) "__setattr__" = some (some (.builtin "object.__setattr__")))
    (mkCR : PySem.W.makesIn K CR = true)
    (kcCR : PySem.W.keepIn K (.ref CR) = true)
    (nCR0 : PySem.W.findIn K (.ref CR) "standings" = some none)
    (pgCW : PySem.W.plainGet K CW Str.empty = true)
    (hdCW : PySem.W.hasDictIn K CW = true)
    (poCW : PySem.W.plainOver K CW = true)
    (saCW : PySem.W.findIn K (.ref CW) "__setattr__" = some (some (.builtin "object.__setattr__")))
    (mkCW : PySem.W.makesIn K CW = true)
    (kcCW : PySem.W.keepIn K (.ref CW) = true)
    (nCW0 : PySem.W.findIn K (.ref CW) "program" = some none)
    (pgCC : PySem.W.plainGet K CC Str.empty = true)
    (hdCC : PySem.W.hasDictIn K CC = true)
    (poCC : PySem.W.plainOver K CC = true)
    (saCC : PySem.W.findIn K (.ref CC) "__setattr__" = some (some (.builtin "object.__setattr__")))
    (mkCC : PySem.W.makesIn K CC = true)
    (kcCC : PySem.W.keepIn K (.ref CC) = true)
    (nCC0 : PySem.W.findIn K (.ref CC) "place" = some none)
    (nCC1 : PySem.W.findIn K (.ref CC) "against" = some none)
    (ia : PySem.W.findIn K (.ref C) "__class__" = some (some (.builtin "object.__class__")))
    (ih : PySem.W.specialIn K (.builtin "object.__class__") "__get__" = some (some (.builtin "getset_descriptor.__get__")))
    (it : PySem.W.takesIn K (.builtin "object.__class__") = some true)
    (im : PySem.W.mroIn K C (.type "object") = some true)
    (ic : PySem.W.isClsIn K C = true)
    (iy : PySem.W.typeIn K (.ref C) = some (.type "type"))
    (ii : PySem.W.subIn K (.type "int") (.ref C) = some false)
    (iu : PySem.W.subIn K (.ref C) (.type "tuple") = some false)
    (xB : K.lookup CB = some (excClassObj nmB qB CB NB bsB bmB true snB subB abB colB ddB m0B m1B m2B m3B m5B "ValueError.__new__"))
    (rB : PySem.HandSPX.refsVE bmB = true)
    (bsa : PySem.W.findIn K (.ref CB) "__setattr__" = some (some (.builtin "object.__setattr__")))
    (bex : PySem.W.subIn K (.ref CB) (.type "BaseException") = some true)
    (bty : PySem.W.typeIn K (.ref CB) = some (.type "type"))
    (bkc : PySem.W.keepIn K (.ref CB) = true)
    (bno : PySem.W.findIn K (.ref CB) "name" = some none)
    (bsg : PySem.W.specialIn K (.ref BB) "__getattribute__" = some (some (.builtin "type.__getattribute__")))
    (brd : PySem.W.readsIn K BB (.type "type") = true)
    (bfi : PySem.W.findCls K (.ref BB) (.type "type") "__init__" = some (.val (.builtin "ValueError.__init__")))
    (bga : PySem.W.findIn K (.ref CB) "__getattribute__" = some (some (.builtin "BaseException.__getattribute__")))
    (bgg : PySem.W.findIn K (.ref CB) "__getattr__" = some none)
    (bhd : PySem.W.hasDictIn K CB = true)
    (bic : PySem.W.isClsIn K CB = true)
    (bss : PySem.W.subIn K (.ref CB) (.ref CB) = some true)
    (gW : PySem.W.nsIn K mainGlobals "WRITTEN" = some (some (.str "" tW)))
    (gP : PySem.W.nsIn K mainGlobals "PRESENT" = some (some (.int 0 tP)))
    (gG : PySem.W.nsIn K mainGlobals "GONE" = some (some (.int 1 tG)))
    (gJ : PySem.W.nsIn K mainGlobals "JUST" = some (some (.int 2 tJ)))
    (gL : PySem.W.nsIn K mainGlobals "LETTERS" = some (some (.str "abcdefghijklmnopqrstuvwxyz" tL)))
    (gm1 : PySem.W.nsIn K mainGlobals "MOST_REGISTERS" = some (some (.int 4 tm1)))
    (gm2 : PySem.W.nsIn K mainGlobals "MOST_KINDS" = some (some (.int 4 tm2)))
    (gm3 : PySem.W.nsIn K mainGlobals "MOST_SOURCES" = some (some (.int 2 tm3)))
    (gm4 : PySem.W.nsIn K mainGlobals "LONGEST" = some (some (.int 4 tm4)))
    (gm5 : PySem.W.nsIn K mainGlobals "LONGEST_WORD" = some (some (.int 8 tm5)))
    (gm6 : PySem.W.nsIn K mainGlobals "MOST_CHOICES" = some (some (.int 40 tm6)))
    (z0 : PySem.W.nsIn K mainGlobals "isinstance" = some none)
    (z1 : PySem.W.nsIn K mainGlobals "int" = some none)
    (z2 : PySem.W.nsIn K mainGlobals "bool" = some none)
    (z3 : PySem.W.nsIn K mainGlobals "str" = some none)
    (z4 : PySem.W.nsIn K mainGlobals "tuple" = some none)
    (z5 : PySem.W.nsIn K mainGlobals "dict" = some none)
    (z6 : PySem.W.nsIn K mainGlobals "list" = some none)
    (z7 : PySem.W.nsIn K mainGlobals "len" = some none)
    (z8 : PySem.W.nsIn K mainGlobals "all" = some none)
    (z9 : PySem.W.nsIn K mainGlobals "any" = some none)
    (z10 : PySem.W.nsIn K mainGlobals "max" = some none)
    (z11 : PySem.W.nsIn K mainGlobals "sorted" = some none)
    (z12 : PySem.W.nsIn K mainGlobals "enumerate" = some none)
    (z13 : PySem.W.nsIn K mainGlobals "range" = some none)
    (z14 : PySem.W.nsIn K mainGlobals "zip" = some none)
    (z15 : PySem.W.nsIn K mainGlobals "min" = some none)
    (oC : K.lookup cC = some ⟨ecC, dcC, .fields vsC, slC⟩)
    (vC : vsC[11]? = some (.ref PT))
    (pC : K.lookup PT = none)
    : HasLaw l w K mg fa := by
  have e := hfa.symm.trans (PySem.W.mg_of X G aLaw)
  cases e
  have T : Txt K mg := ⟨⟨_, PySem.W.mg_of X G gW, _, rfl⟩, ⟨_, PySem.W.mg_of X G gP, _, rfl⟩, ⟨_, PySem.W.mg_of X G gG, _, rfl⟩, ⟨_, PySem.W.mg_of X G gJ, _, rfl⟩, ⟨_, PySem.W.mg_of X G gL, _, rfl⟩, ⟨_, PySem.W.mg_of X G gm1, _, rfl⟩, ⟨_, PySem.W.mg_of X G gm2, _, rfl⟩, ⟨_, PySem.W.mg_of X G gm3, _, rfl⟩, ⟨_, PySem.W.mg_of X G gm4, _, rfl⟩, ⟨_, PySem.W.mg_of X G gm5, _, rfl⟩, ⟨_, PySem.W.mg_of X G gm6, _, rfl⟩,
    PySem.W.mg_none_of X G z0, PySem.W.mg_none_of X G z1, PySem.W.mg_none_of X G z2, PySem.W.mg_none_of X G z3, PySem.W.mg_none_of X G z4, PySem.W.mg_none_of X G z5, PySem.W.mg_none_of X G z6, PySem.W.mg_none_of X G z7, PySem.W.mg_none_of X G z8, PySem.W.mg_none_of X G z9, PySem.W.mg_none_of X G z10, PySem.W.mg_none_of X G z11, PySem.W.mg_none_of X G z12, PySem.W.mg_none_of X G z13⟩
  have TC : TxtC K mg C := ⟨⟨pgC, hdC, poC, saC⟩, nC0, nC1, nC2, nC3, nC4, PySem.W.mg_of X G aC⟩
  have TCL : TxtL K mg CL := ⟨⟨pgCL, hdCL, poCL, saCL⟩, nCL0, nCL1, nCL2, PySem.W.mg_of X G aCL⟩
  have TCR : TxtO K mg CR "Right" "standings" := ⟨⟨pgCR, hdCR, poCR, saCR⟩, nCR0, PySem.W.mg_of X G aCR⟩
  have TCW : TxtO K mg CW "Wrong" "program" := ⟨⟨pgCW, hdCW, poCW, saCW⟩, nCW0, PySem.W.mg_of X G aCW⟩
  have TCC : TxtH K mg CC := ⟨⟨pgCC, hdCC, poCC, saCC⟩, nCC0, nCC1, PySem.W.mg_of X G aCC⟩
  have IC : C8.InsC K C := ⟨⟨pgC, hdC, poC, saC⟩, ia, ih, it, im, kit_me⟩
  have IF : InsF K C := ⟨IC, kit_int ic iy ii, kit_tup iu⟩
  have TB : TxtB K mg CB BB := ⟨⟨⟨nmB, qB, NB, bsB, bmB, snB, subB, abB, colB, ddB, m0B, m1B, m2B, m3B, m5B, xB, rB⟩, bsa, bex, bty, bkc⟩, bno, PySem.W.mg_of X G aBB, bsg, brd, bfi⟩
  have FNum := fun_mk (st := sNum) lNum cNum kNum
  have FCan := fun_mk (st := sCan) lCan cCan kCan
  have FHeld := fun_mk (st := sHeld) lHeld cHeld kHeld
  have FGrown := fun_mk (st := sGrown) lGrown cGrown kGrown
  have FAged := fun_mk (st := sAged) lAged cAged kAged
  have FEnded := fun_mk (st := sEnded) lEnded cEnded kEnded
  have FREnt := fun_mk (st := sREnt) lREnt cREnt kREnt
  have FPut := fun_mk (st := sPut) lPut cPut kPut
  have FAreK := fun_mk (st := sAreK) lAreK cAreK kAreK
  have FIsKW := fun_mk (st := sIsKW) lIsKW cIsKW kIsKW
  have FIsK := fun_mk (st := sIsK) lIsK cIsK kIsK
  have FCheckP := fun_mk (st := sCheckP) lCheckP cCheckP kCheckP
  have FPlayed := fun_mk (st := sPlayed) lPlayed cPlayed kPlayed
  have FPlain := fun_mk (st := sPlain) lPlain cPlain kPlain
  have FCopied := fun_mk (st := sCopied) lCopied cCopied kCopied
  have FNeed := fun_mk (st := sNeed) lNeed cNeed kNeed
  have FChkCh := fun_mk (st := sChkCh) lChkCh cChkCh kChkCh
  have FIsCh := fun_mk (st := sIsCh) lIsCh cIsCh kIsCh
  have FCheaper := fun_mk (st := sCheaper) lCheaper cCheaper kCheaper
  have FJudge := fun_mk (st := sJudge) lJudge cJudge kJudge
  have FProgTo := fun_mk (st := sProgTo) lProgTo cProgTo kProgTo
  have FIsRight := fun_mk (st := sIsRight) lIsRight cIsRight kIsRight
  have FDraw := fun_mk (st := sDraw) lDraw cDraw kDraw
  have FSet := fun_mk (st := sSet) lSet cSet kSet
  have FPipe := fun_mk (st := sPipe) lPipe cPipe kPipe
  have FThere := fun_mk (st := sThere) lThere cThere kThere
  have FLast := fun_mk (st := sLast) lLast cLast kLast
  have FLHeld := fun_mk (st := sLHeld) lLHeld cLHeld kLHeld
  have FRead := fun_mk (st := sRead) lRead cRead kRead
  have FLPlayed := fun_mk (st := sLPlayed) lLPlayed cLPlayed kLPlayed
  have FLPlain := fun_mk (st := sLPlain) lLPlain cLPlain kLPlain
  have FLaw := fun_mk (st := sLaw) lLaw cLaw kLaw
  have FInit := fun_mk (st := sInit) lInit cInit kInit
  have FIsIns := fun_mk (st := sIsIns) lIsIns cIsIns kIsIns
  have FInss := fun_mk (st := sInss) lInss cInss kInss
  have FStart := fun_mk (st := sStart) lStart cStart kStart
  have FFollow := fun_mk (st := sFollow) lFollow cFollow kFollow
  have FLater := fun_mk (st := sLater) lLater cLater kLater
  have FEnds := fun_mk (st := sEnds) lEnds cEnds kEnds
  have FPlInit := fun_mk (st := sPlInit) lPlInit cPlInit kPlInit
  have FRInit := fun_mk (st := sRInit) lRInit cRInit kRInit
  have FRBool := fun_mk (st := sRBool) lRBool cRBool kRBool
  have FWInit := fun_mk (st := sWInit) lWInit cWInit kWInit
  have FWBool := fun_mk (st := sWBool) lWBool cWBool kWBool
  have FChInit := fun_mk (st := sChInit) lChInit cChInit kChInit
  have FChShows := fun_mk (st := sChShows) lChShows cChShows kChShows
  have FBadPipeInit := fun_mk (st := sBadPipeInit) lBadPipeInit cBadPipeInit kBadPipeInit
  have bNum := FNum.binds (ps := ["thing"]) fun _ _ _ _ _ _ us hl => match us, hl with | [_], _ => rfl
  have bCan := FCan.binds (ps := ["kinds", "entry"]) fun _ _ _ _ _ _ us hl => match us, hl with | [_, _], _ => rfl
  have bHeld := FHeld.binds (ps := ["pipe", "standing", "instruction"]) fun _ _ _ _ _ _ us hl => match us, hl with | [_, _, _], _ => rfl
  have bGrown := FGrown.binds (ps := ["kinds", "entry"]) fun _ _ _ _ _ _ us hl => match us, hl with | [_, _], _ => rfl
  have bAged := FAged.binds (ps := ["kinds", "entries"]) fun _ _ _ _ _ _ us hl => match us, hl with | [_, _], _ => rfl
  have bEnded := FEnded.binds (ps := ["kinds", "entries"]) fun _ _ _ _ _ _ us hl => match us, hl with | [_, _], _ => rfl
  have bREnt := FREnt.binds (ps := ["kinds", "entries"]) fun _ _ _ _ _ _ us hl => match us, hl with | [_, _], _ => rfl
  have bPut := FPut.binds (ps := ["standing", "instruction", "more"]) fun _ _ _ _ _ _ us hl => match us, hl with | [_, _, _], _ => rfl
  have bAreK := FAreK.binds (ps := ["kinds"]) fun _ _ _ _ _ _ us hl => match us, hl with | [_], _ => rfl
  have bIsKW := FIsKW.binds (ps := ["thing"]) fun _ _ _ _ _ _ us hl => match us, hl with | [_], _ => rfl
  have bIsK := FIsK.binds (ps := ["thing"]) fun _ _ _ _ _ _ us hl => match us, hl with | [_], _ => rfl
  have bCheckP := FCheckP.binds (ps := ["pipe", "program"]) fun _ _ _ _ _ _ us hl => match us, hl with | [_, _], _ => rfl
  have bPlayed := FPlayed.binds (ps := ["pipe", "program"]) fun _ _ _ _ _ _ us hl => match us, hl with | [_, _], _ => rfl
  have bPlain := FPlain.binds (ps := ["pipe", "program"]) fun _ _ _ _ _ _ us hl => match us, hl with | [_, _], _ => rfl
  have bCopied := FCopied.binds (ps := ["program"]) fun _ _ _ _ _ _ us hl => match us, hl with | [_], _ => rfl
  have bNeed := FNeed.binds (ps := ["pipe"]) fun _ _ _ _ _ _ us hl => match us, hl with | [_], _ => rfl
  have bChkCh := FChkCh.binds (ps := ["choices"]) fun _ _ _ _ _ _ us hl => match us, hl with | [_], _ => rfl
  have bIsCh := FIsCh.binds (ps := ["thing"]) fun _ _ _ _ _ _ us hl => match us, hl with | [_], _ => rfl
  have bCheaper := FCheaper.binds (ps := ["choices", "place"]) fun _ _ _ _ _ _ us hl => match us, hl with | [_, _], _ => rfl
  have bJudge := FJudge.binds (ps := ["pipe"]) fun _ _ _ _ _ _ us hl => match us, hl with | [_], _ => rfl
  have bProgTo := FProgTo.binds (ps := ["found", "standing"]) fun _ _ _ _ _ _ us hl => match us, hl with | [_, _], _ => rfl
  have bIsRight := FIsRight.binds (ps := ["pipe", "program"]) fun _ _ _ _ _ _ us hl => match us, hl with | [_, _], _ => rfl
  have bDraw := FDraw.binds (ps := ["script", "at", "many"]) fun _ _ _ _ _ _ us hl => match us, hl with | [_, _, _], _ => rfl
  have bSet := FSet.binds (ps := ["script", "at"]) fun _ _ _ _ _ _ us hl => match us, hl with | [_, _], _ => rfl
  have bPipe := FPipe.binds (ps := ["told"]) fun _ _ _ _ _ _ us hl => match us, hl with | [_], _ => rfl
  have bThere := FThere.binds (ps := ["told", "writer", "tick"]) fun _ _ _ _ _ _ us hl => match us, hl with | [_, _, _], _ => rfl
  have bLast := FLast.binds (ps := ["told", "writers", "goal", "tick"]) fun _ _ _ _ _ _ us hl => match us, hl with | [_, _, _, _], _ => rfl
  have bLHeld := FLHeld.binds (ps := ["told", "writers", "one", "tick"]) fun _ _ _ _ _ _ us hl => match us, hl with | [_, _, _, _], _ => rfl
  have bRead := FRead.binds (ps := ["told", "writers", "source", "tick"]) fun _ _ _ _ _ _ us hl => match us, hl with | [_, _, _, _], _ => rfl
  have bLPlayed := FLPlayed.binds (ps := ["told", "program"]) fun _ _ _ _ _ _ us hl => match us, hl with | [_, _], _ => rfl
  have bLPlain := FLPlain.binds (ps := ["told", "program"]) fun _ _ _ _ _ _ us hl => match us, hl with | [_, _], _ => rfl
  have bLaw := FLaw.binds (ps := ["script"]) fun _ _ _ _ _ _ us hl => match us, hl with | [_], _ => rfl
  have bIsIns := FIsIns.binds (ps := ["self", "thing"]) fun _ _ _ _ _ _ us hl => match us, hl with | [_, _], _ => rfl
  have bInss := FInss.binds (ps := ["self"]) fun _ _ _ _ _ _ us hl => match us, hl with | [_], _ => rfl
  have bStart := FStart.binds (ps := ["self"]) fun _ _ _ _ _ _ us hl => match us, hl with | [_], _ => rfl
  have bFollow := FFollow.binds (ps := ["self", "standing", "instruction"]) fun _ _ _ _ _ _ us hl => match us, hl with | [_, _, _], _ => rfl
  have bLater := FLater.binds (ps := ["self", "standing"]) fun _ _ _ _ _ _ us hl => match us, hl with | [_, _], _ => rfl
  have bEnds := FEnds.binds (ps := ["self", "standing"]) fun _ _ _ _ _ _ us hl => match us, hl with | [_, _], _ => rfl
  have bPlInit := FPlInit.binds (ps := ["self", "held", "reads", "ends"]) fun _ _ _ _ _ _ us hl => match us, hl with | [_, _, _, _], _ => rfl
  have bRInit := FRInit.binds (ps := ["self", "standings"]) fun _ _ _ _ _ _ us hl => match us, hl with | [_, _], _ => rfl
  have bRBool := FRBool.binds (ps := ["self"]) fun _ _ _ _ _ _ us hl => match us, hl with | [_], _ => rfl
  have bWInit := FWInit.binds (ps := ["self", "program"]) fun _ _ _ _ _ _ us hl => match us, hl with | [_, _], _ => rfl
  have bWBool := FWBool.binds (ps := ["self"]) fun _ _ _ _ _ _ us hl => match us, hl with | [_], _ => rfl
  have bChInit := FChInit.binds (ps := ["self", "place", "against"]) fun _ _ _ _ _ _ us hl => match us, hl with | [_, _, _], _ => rfl
  have bChShows := FChShows.binds (ps := ["self", "choices"]) fun _ _ _ _ _ _ us hl => match us, hl with | [_, _], _ => rfl
  have bInit : KBn K (PySem.W.fnOf "__init__" "Pipe.__init__" (defArgs sInit) (defBody sInit) (defScope sInit) .none kVInit dcInit pmInit anInit cdInit ctInit) ["self", "registers", "kinds", "holds", "orders"] 3 ["holds", "orders"] (fun us ws => us ++ ws) (fun vs zs => vs ++ zs) :=
    ⟨fun s us ws _ l1 l2 => .of_eq (match us, ws, l1, l2 with | [_, _, _], [_, _], _, _ => rfl), fun r1 r2 => Vals.append r1 r2⟩
  have bBadPipeInit := FBadPipeInit.binds (ps := ["self", "name"]) fun _ _ _ _ _ _ us hl => match us, hl with | [_, _], _ => rfl
  have bCheapest : Binds K (PySem.W.fnOf "cheapest_right" "cheapest_right" (defArgs sCheapest) (defBody sCheapest) (defScope sCheapest) .none kVCheapest dcCheapest pmCheapest anCheapest (.ref cC) ctCheapest) ["choices"] [] := Binds.all fun us hl => match us, hl with | [_], _ => rfl
  have gNum' := PySem.W.mg_of X G aNum
  have gCan' := PySem.W.mg_of X G aCan
  have gHeld' := PySem.W.mg_of X G aHeld
  have gGrown' := PySem.W.mg_of X G aGrown
  have gAged' := PySem.W.mg_of X G aAged
  have gEnded' := PySem.W.mg_of X G aEnded
  have gREnt' := PySem.W.mg_of X G aREnt
  have gPut' := PySem.W.mg_of X G aPut
  have gAreK' := PySem.W.mg_of X G aAreK
  have gIsKW' := PySem.W.mg_of X G aIsKW
  have gIsK' := PySem.W.mg_of X G aIsK
  have gCheckP' := PySem.W.mg_of X G aCheckP
  have gPlayed' := PySem.W.mg_of X G aPlayed
  have gPlain' := PySem.W.mg_of X G aPlain
  have gCopied' := PySem.W.mg_of X G aCopied
  have gNeed' := PySem.W.mg_of X G aNeed
  have gChkCh' := PySem.W.mg_of X G aChkCh
  have gIsCh' := PySem.W.mg_of X G aIsCh
  have gCheaper' := PySem.W.mg_of X G aCheaper
  have gJudge' := PySem.W.mg_of X G aJudge
  have gProgTo' := PySem.W.mg_of X G aProgTo
  have gIsRight' := PySem.W.mg_of X G aIsRight
  have gDraw' := PySem.W.mg_of X G aDraw
  have gSet' := PySem.W.mg_of X G aSet
  have gPipe' := PySem.W.mg_of X G aPipe
  have gThere' := PySem.W.mg_of X G aThere
  have gLast' := PySem.W.mg_of X G aLast
  have gLHeld' := PySem.W.mg_of X G aLHeld
  have gRead' := PySem.W.mg_of X G aRead
  have gLPlayed' := PySem.W.mg_of X G aLPlayed
  have gLPlain' := PySem.W.mg_of X G aLPlain
  have gLaw' := PySem.W.mg_of X G aLaw
  have gCheapest' := PySem.W.mg_of X G aCheapest
  refine ⟨PySem.W.fnOf "law" "law" (defArgs sLaw) (defBody sLaw) (defScope sLaw) .none kVLaw dcLaw pmLaw anLaw cdLaw ctLaw, fCheapest, cC, PT, _, _, _, _, _, _, gCheapest', lCheapest, rfl, rfl, oC, vC, pC, fun s v => .of_eq rfl, fun base _ _ TT => ?_⟩
  have dNum : Dfn l.prog w K mg base "is_number" 1 ["thing"] spNum fNum _ := ⟨ok_num FNum T, gNum', kNum, bNum⟩
  have dNum2 : Dfn l.prog w K mg base "is_number" 1 ["thing"] spNum2 fNum _ := ⟨ok_num2 FNum T, gNum', kNum, bNum⟩
  have dCan : ∀ ks : KT, Dfn l.prog w K mg base "can_be_read" 1 ["kinds", "entry"] (spCan ks) fCan _ := fun ks => ⟨ok_can FCan T, gCan', kCan, bCan⟩
  have dGrown : ∀ ks : KT, Dfn l.prog w K mg base "grown" 1 ["kinds", "entry"] (spGrown ks) fGrown _ := fun ks => ⟨ok_grown FGrown T, gGrown', kGrown, bGrown⟩
  have dAged : ∀ ks : KT, KOk ks → Dfn l.prog w K mg base "aged" 2 ["kinds", "entries"] (spAged ks) fAged _ := fun ks ko => ⟨ok_aged FAged T ko (dGrown ks), gAged', kAged, bAged⟩
  have dEnded : ∀ ks : KT, KOk ks → Dfn l.prog w K mg base "ended" 3 ["kinds", "entries"] (spEnded ks) fEnded _ := fun ks ko => ⟨ok_ended FEnded T ko (dAged ks ko), gEnded', kEnded, bEnded⟩
  have dREnt : ∀ ks : KT, Dfn l.prog w K mg base "read_entry" 2 ["kinds", "entries"] (spREnt ks) fREnt _ := fun ks => ⟨ok_rent FREnt (dCan ks), gREnt', kREnt, bREnt⟩
  have dPut : ∀ ks : KT, Dfn l.prog w K mg base "put_under_way" 1 ["standing", "instruction", "more"] (spPut ks) fPut _ := fun ks => ⟨ok_put FPut, gPut', kPut, bPut⟩
  have dHeld : ∀ ti : PI0, Dfn l.prog w K mg base "is_held" 2 ["pipe", "standing", "instruction"] (spHeld C ti) fHeld _ := fun ti => ⟨ok_held FHeld T TC (dCan ti.ks), gHeld', kHeld, bHeld⟩
  have dIsKW : Dfn l.prog w K mg base "is_word" 1 ["thing"] spIsKW fIsKW _ := ⟨ok_isKW FIsKW T, gIsKW', kIsKW, bIsKW⟩
  have dIsK : Dfn l.prog w K mg base "is_kind" 2 ["thing"] spIsK fIsK _ := ⟨ok_isK FIsK T dNum, gIsK', kIsK, bIsK⟩
  have dAreK : Dfn l.prog w K mg base "are_kinds" 3 ["kinds"] spAreK fAreK _ := ⟨ok_areK FAreK T dIsKW dIsK, gAreK', kAreK, bAreK⟩
  have oInit : FnOk l.prog w K mg base CX0 4 fInit _ ["self", "registers", "kinds", "holds", "orders"] (spInit l.prog w C) := ok_init FInit T TC dNum dAreK
  have mIsIns : ∀ ti : PI0, Dfm l.prog w K mg base C "is_instruction" 2 ["self", "thing"] (spIsIns C ti) fIsIns _ := fun ti => ⟨ok_isIns FIsIns T TC dNum, ⟨aIsIns, iIsIns, kIsIns⟩, bIsIns⟩
  have mInss : ∀ ti ki, One ti ki → Dfm l.prog w K mg base C "instructions" 1 ["self"] (spInsD C ti (insF ki)) fInss _ := fun ti ki o => ⟨ok_inss FInss T TC o, ⟨aInss, iInss, kInss⟩, bInss⟩
  have mStart : ∀ ti : PI0, Dfm l.prog w K mg base C "start" 1 ["self"] (spStart C ti) fStart _ := fun ti => ⟨ok_start FStart T TC, ⟨aStart, iStart, kStart⟩, bStart⟩
  have mLater : ∀ ti : PI0, KOk ti.ks → Dfm l.prog w K mg base C "later" 3 ["self", "standing"] (spLater l.prog w C ti) fLater _ := fun ti ko => ⟨ok_later FLater T TC (dAged ti.ks ko), ⟨aLater, iLater, kLater⟩, bLater⟩
  have mFollow : ∀ ti : PI0, KOk ti.ks → Dfm l.prog w K mg base C "follow" 4 ["self", "standing", "instruction"] (spFollow l.prog w C ti) fFollow _ := fun ti ko => ⟨ok_follow FFollow T TC ko (dHeld ti) (mLater ti ko) (dPut ti.ks) (dCan ti.ks), ⟨aFollow, iFollow, kFollow⟩, bFollow⟩
  have mEnds : ∀ ti : PI0, KOk ti.ks → Dfm l.prog w K mg base C "ends_right" 4 ["self", "standing"] (spEnds C ti) fEnds _ := fun ti ko => ⟨ok_ends FEnds T TC ko (dEnded ti.ks ko), ⟨aEnds, iEnds, kEnds⟩, bEnds⟩
  have dCheckP : ∀ ti : PI0, Dfn l.prog w K mg base "check_program" 3 ["pipe", "program"] (spChk C ti) fCheckP _ := fun ti => ⟨ok_chk FCheckP T TC (mIsIns ti), gCheckP', kCheckP, bCheckP⟩
  have oPl : FnOk l.prog w K mg base CX0 1 fPlInit _ ["self", "held", "reads", "ends"] (spPlInit K CL) := ok_plInit FPlInit T TCL
  have dPlayed : ∀ ti : PI0, KOk ti.ks → Dfn l.prog w K mg base "played" 4 ["pipe", "program"] (spPlayed l.prog w C CL ti) fPlayed _ := fun ti ko => ⟨ok_played FPlayed T TC TCL ko (dCheckP ti) (dHeld ti) (mLater ti ko) (dPut ti.ks) (dREnt ti.ks) (dEnded ti.ks ko) ⟨mkCL, aPlInit, iPlInit, kcCL⟩ oPl bPlInit, gPlayed', kPlayed, bPlayed⟩
  have dPlain : ∀ ti : PI0, Dfn l.prog w K mg base "plain_reads" 4 ["pipe", "program"] (spPlain C ti) fPlain _ := fun ti => ⟨ok_plain FPlain T TC (dCheckP ti), gPlain', kPlain, bPlain⟩
  have dNeed : Dfn l.prog w K mg base "need_pipe" 1 ["pipe"] (spNeed C) fNeed _ := ⟨ok_need FNeed T TC.mgC IC, gNeed', kNeed, bNeed⟩
  have dIsRight : Dfn l.prog w K mg base "is_right" 5 ["pipe", "program"] (exO fun ti _ => spIsR l.prog w C ti) fIsRight _ := ⟨FnOk.exO fun ti ki o ko => ok_isR FIsRight TCL dNeed (dPlayed ti ko) (dPlain ti), gIsRight', kIsRight, bIsRight⟩
  have dCopied : Dfn l.prog w K mg base "copied_program" 1 ["program"] spCop fCopied _ := ⟨ok_cop FCopied T, gCopied', kCopied, bCopied⟩
  have oW : FnOk l.prog w K mg base CX0 2 fWInit _ ["self", "program"] (spWInit CW) := ok_wInit FWInit TCW dCopied
  have oR : FnOk l.prog w K mg base CX0 1 fRInit _ ["self", "standings"] (spRInit CR) := ok_rInit FRInit T TCR
  have oH : FnOk l.prog w K mg base CX0 2 fChInit _ ["self", "place", "against"] (spHInit CC) := ok_hInit FChInit T TCC dCopied
  have tR : Tru l.prog w K mg base CR true fRBool _ := ⟨ok_rBool FRBool, aRBool, iRBool, bRBool⟩
  have tW : Tru l.prog w K mg base CW false fWBool _ := ⟨ok_wBool FWBool, aWBool, iWBool, bWBool⟩
  have dProgTo : Dfn l.prog w K mg base "program_to" 1 ["found", "standing"] (spPTo l.prog w) fProgTo _ := ⟨ok_pTo FProgTo, gProgTo', kProgTo, bProgTo⟩
  have dJudge : Dfn l.prog w K mg base "judge_pipe" 5 ["pipe"] (exO fun ti ki => spJudge l.prog w C CW CR ti (insF ki)) fJudge _ := ⟨FnOk.exO fun ti ki o ko => ok_judge FJudge T TC TCW TCR dNeed (mInss ti ki o) (mStart ti) (mFollow ti ko) (mEnds ti ko) dProgTo ⟨mkCW, aWInit, iWInit, kcCW⟩ oW bWInit ⟨mkCR, aRInit, iRInit, kcCR⟩ oR bRInit, gJudge', kJudge, bJudge⟩
  have MB : MkB l.prog w K mg base CB fBadPipeInit _ := ⟨ok_bp FBadPipeInit TB, aBadPipeInit, iBadPipeInit, bBadPipeInit, PySem.W.mg_of X G aCB⟩
  have dIsCh : Dfn l.prog w K mg base "is_choice" 2 ["thing"] (spIsCh C) fIsCh _ := ⟨ok_isCh FIsCh T TC IF dNum2, gIsCh', kIsCh, bIsCh⟩
  have xChk : DfX l.prog w K mg base "check_choices" 3 ["choices"] (spChkC C CB) fChkCh _ := ⟨ok_chkC FChkCh T TB MB dIsCh, gChkCh', kChkCh, bChkCh⟩
  have dCheaper : Dfn l.prog w K mg base "cheaper_places" 1 ["choices", "place"] spChp fCheaper _ := ⟨ok_chp FCheaper T, gCheaper', kCheaper, bCheaper⟩
  have dCheckO : Dfn l.prog w K mg base "check_program" 3 ["pipe", "program"] (exO fun ti _ => spChk C ti) fCheckP _ := ⟨FnOk.exO fun ti _ _ _ => (dCheckP ti).ok, gCheckP', kCheckP, bCheckP⟩
  have mChShows : Dfm l.prog w K mg base CC "shows" 6 ["self", "choices"] (spShows l.prog w C CC) fChShows _ := ⟨ok_shows FChShows T T.bool TCC xChk dCheckO dCheaper dIsRight dJudge tR tW, ⟨aChShows, iChShows, kChShows⟩, bChShows⟩
  have MH : Mk K CC fChInit := ⟨mkCC, aChInit, iChInit, kcCC⟩
  have xCheap : DfX l.prog w K mg base "cheapest_right" 6 ["choices"] (spCR l.prog w C CB CC PT) fCheapest _ := ⟨ok_cheapest lCheapest cCheapest T TT TCW TCC xChk dCheaper dJudge tR tW MH oH bChInit, gCheapest', kCheapest, bCheapest⟩
  have dDraw : Dfn l.prog w K mg base "_law_draw" 1 ["script", "at", "many"] (spDraw K) fDraw _ := ⟨ok_draw FDraw T, gDraw', kDraw, bDraw⟩
  have dSet : Dfn l.prog w K mg base "_law_settings" 2 ["script", "at"] (spSet K) fSet _ := ⟨ok_set FSet T dDraw, gSet', kSet, bSet⟩
  have dPipe : Dfn l.prog w K mg base "_law_pipe" 6 ["told"] (spPipe l.prog w C) fPipe _ := ⟨ok_pipe FPipe TC ⟨mkC, aInit, iInit, kcC⟩ oInit bInit, gPipe', kPipe, bPipe⟩
  have dThere : ∀ ti : PI0, Dfn l.prog w K mg base "_law_there" 1 ["told", "writer", "tick"] (spThere ti) fThere _ := fun ti => ⟨ok_there FThere, gThere', kThere, bThere⟩
  have dLast : ∀ ti : PI0, Dfn l.prog w K mg base "_law_last" 2 ["told", "writers", "goal", "tick"] (spLast ti) fLast _ := fun ti => ⟨ok_last FLast (dThere ti), gLast', kLast, bLast⟩
  have dLHeld : ∀ ti : PI0, KOk ti.ks → Dfn l.prog w K mg base "_law_held" 2 ["told", "writers", "one", "tick"] (spLHeld ti) fLHeld _ := fun ti ko => ⟨ok_lheld FLHeld ko (dThere ti), gLHeld', kLHeld, bLHeld⟩
  have dRead : ∀ ti : PI0, Dfn l.prog w K mg base "_law_read" 3 ["told", "writers", "source", "tick"] (spRead ti) fRead _ := fun ti => ⟨ok_read FRead T (dThere ti) (dLast ti), gRead', kRead, bRead⟩
  have dLPlayed : Dfn l.prog w K mg base "_law_played" 4 ["told", "program"] (exO fun ti _ => spLPlayed ti) fLPlayed _ := ⟨FnOk.exO fun ti ki o ko => ok_lplayed FLPlayed T (dLHeld ti ko) (dRead ti) (dLast ti), gLPlayed', kLPlayed, bLPlayed⟩
  have dLPlain : Dfn l.prog w K mg base "_law_plain" 1 ["told", "program"] (exO fun ti _ => spLPlain ti) fLPlain _ := ⟨FnOk.exO fun ti ki o ko => ok_lplain FLPlain T, gLPlain', kLPlain, bLPlain⟩
  exact ok_law FLaw ⟨T, PySem.W.mg_none_of X G z14, PySem.W.mg_none_of X G z15, PySem.W.mg_of X G aCB, ⟨bga, bgg, bex, bhd⟩, bno, exm_me bex bic bty bss, TCC, dSet, dDraw, dPipe, xCheap, dJudge, dLPlayed, dLPlain, MH, oH, bChInit, mChShows, tR, tW⟩
theorem walk5 {l : PySem.W.OpenLaw} {q : Program} {loose : List Str} {XP : (Str → Option Value) → Heap → Prop} {YP : World → Heap → Prop} {d : DefRec} {K : Params → PySem.W.Frag} (most : l.most = some 63) (plain : d.params.defaults = [])
    (rec : ((recsOf q).any fun e => e.name == ("cheapest_right" : Str)) = true) (kin : ∀ (w : World) (h : Heap), YP w h → (K w.params).In h)
    (F : ∀ (w : World) (mg : Str → Option Value) (fa : Addr) (h : Heap), (K w.params).In h → h.Ns mainGlobals mg → mg d.name = some (.ref fa) → HasLaw l w (K w.params) mg fa) :
    PySem.W.WalkO q loose XP YP l.row.toRowW d [] (fun f vs => PySem.call f vs) := by
  refine Att.attach_callB most plain fun w sA sB mg mb fa oL pmL cdL docL aS vs ns G Y _ _ _ named asList iAre short _ gens => ?_
  have KX := kin w _ Y
  obtain ⟨fd, f, c, PT, o1, fd1, e1, dd1, vs1, sl1, gf, k1, k2, k3, k4, k5, k6, bnd, ok⟩ := F w mg fa _ KX G.T.g named
  have tab : PySem.W.CodeHd sB.heap c PT ∧ sB.heap.get? PT = some { cls := .none, data := .fields #[] } := by
    obtain ⟨dL, inL, nmL⟩ := List.any_eq_true.mp rec
    have nmL' : dL.name = ("cheapest_right" : Str) := beq_iff_eq.mp nmL
    obtain ⟨aa, oo, ff, cc, pp, h1, h2, h3, h4, h5, h6⟩ := G.T.tab dL inL
    rw [nmL', gf] at h1
    cases h1
    rw [KX _ _ k1] at h2
    cases h2
    rw [k2] at h3
    cases h3
    rw [k3] at h4
    cases h4
    have hc := PySem.W.CodeHd.of h5 h6
    obtain ⟨⟨oc, vc, g1, _, g3, g4⟩, g5⟩ := h6
    rw [KX _ _ k4] at g1
    cases g1
    cases g3
    rw [k5] at g4
    cases g4
    exact ⟨hc, g5⟩
  have one : ∀ p ∈ [(c, PT)], p = (c, PT) := fun p hp => List.mem_singleton.mp hp
  exact LamX.law_callTs (cs := [(c, PT)]) (k := 7) (CX := CX0) (sp := spLaw (K w.params) PT) KX G.T.g G.T.b G.T.builtins G.T.nolimit gens (fun p hp => by rw [one p hp]; exact tab.2) (fun p hp => by rw [one p hp]; exact k6) (fun p hp => by rw [one p hp]; exact tab.1) G.T.bmain asList iAre (Nat.le_trans short (by decide)) ⟨rfl, by decide, by decide⟩
    (fun base i1 i2 i3 => ok base i1 i2 (i3 _ List.mem_cons_self)) bnd (fun H hH hS => ⟨aS, ns, rfl, hS, short, fun p hp => by rw [List.mem_singleton.mp hp]; exact LamX.TabS.nil (hH _ List.mem_cons_self), fun _ => rfl⟩) fun _ _ _ z => z
end K3
open PySem PySem.W PyProof.Rows
set_option maxRecDepth 100000 in
set_option maxHeartbeats 0 in
theorem PySem.Challenge.cw_beatwires_k05_whole_chosen_pipes_holds : PySem.Challenge.rw_beatwires_k05_whole_chosen_pipes.Holds := by
  w_on; o_law; k_head; (case hw => w_witness2)
  k_fill
  refine K3.walk5 (l := PySem.Challenge.rw_beatwires_k05_whole_chosen_pipes) rfl rfl ?R (fun w h Y => PySem.W.km_in_of Y) ?F
  case R => kernel_rfl
  case F =>
    intro w mg fa h KX G hmg
    refine' K3.all_mk KX G hmg ?aC ?aCL ?aCR ?aCW ?aCC ?aCB ?aBB ?aNum ?lNum ?cNum ?kNum ?aCan ?lCan ?cCan ?kCan ?aHeld ?lHeld ?cHeld ?kHeld ?aGrown ?lGrown ?cGrown ?kGrown ?aAged ?lAged ?cAged ?kAged ?aEnded ?lEnded ?cEnded ?kEnded ?aREnt ?lREnt ?cREnt ?kREnt ?aPut ?lPut ?cPut ?kPut ?aAreK ?lAreK ?cAreK ?kAreK ?aIsKW ?lIsKW ?cIsKW ?kIsKW ?aIsK ?lIsK ?cIsK ?kIsK ?aCheckP ?lCheckP ?cCheckP ?kCheckP ?aPlayed ?lPlayed ?cPlayed ?kPlayed ?aPlain ?lPlain ?cPlain ?kPlain ?aCopied ?lCopied ?cCopied ?kCopied ?aNeed ?lNeed ?cNeed ?kNeed ?aChkCh ?lChkCh ?cChkCh ?kChkCh ?aIsCh ?lIsCh ?cIsCh ?kIsCh ?aCheaper ?lCheaper ?cCheaper ?kCheaper ?aJudge ?lJudge ?cJudge ?kJudge ?aProgTo ?lProgTo ?cProgTo ?kProgTo ?aIsRight ?lIsRight ?cIsRight ?kIsRight ?aDraw ?lDraw ?cDraw ?kDraw ?aSet ?lSet ?cSet ?kSet ?aPipe ?lPipe ?cPipe ?kPipe ?aThere ?lThere ?cThere ?kThere ?aLast ?lLast ?cLast ?kLast ?aLHeld ?lLHeld ?cLHeld ?kLHeld ?aRead ?lRead ?cRead ?kRead ?aLPlayed ?lLPlayed ?cLPlayed ?kLPlayed ?aLPlain ?lLPlain ?cLPlain ?kLPlain ?aLaw ?lLaw ?cLaw ?kLaw ?aCheapest ?lCheapest ?cCheapest ?kCheapest ?aInit ?iInit ?lInit ?cInit ?kInit ?aIsIns ?iIsIns ?lIsIns ?cIsIns ?kIsIns ?aInss ?iInss ?lInss ?cInss ?kInss ?aStart ?iStart ?lStart ?cStart ?kStart ?aFollow ?iFollow ?lFollow ?cFollow ?kFollow ?aLater ?iLater ?lLater ?cLater ?kLater ?aEnds ?iEnds ?lEnds ?cEnds ?kEnds ?aPlInit ?iPlInit ?lPlInit ?cPlInit ?kPlInit ?aRInit ?iRInit ?lRInit ?cRInit ?kRInit ?aRBool ?iRBool ?lRBool ?cRBool ?kRBool ?aWInit ?iWInit ?lWInit ?cWInit ?kWInit ?aWBool ?iWBool ?lWBool ?cWBool ?kWBool ?aChInit ?iChInit ?lChInit ?cChInit ?kChInit ?aChShows ?iChShows ?lChShows ?cChShows ?kChShows ?aBadPipeInit ?iBadPipeInit ?lBadPipeInit ?cBadPipeInit ?kBadPipeInit ?pgC ?hdC ?poC ?saC ?mkC ?kcC ?nC0 ?nC1 ?nC2 ?nC3 ?nC4 ?pgCL ?hdCL ?poCL ?saCL ?mkCL ?kcCL ?nCL0 ?nCL1 ?nCL2 ?pgCR ?hdCR ?poCR ?saCR ?mkCR ?kcCR ?nCR0 ?pgCW ?hdCW ?poCW ?saCW ?mkCW ?kcCW ?nCW0 ?pgCC ?hdCC ?poCC ?saCC ?mkCC ?kcCC ?nCC0 ?nCC1 ?ia ?ih ?it ?im ?ic ?iy ?ii ?iu ?xB ?rB ?bsa ?bex ?bty ?bkc ?bno ?bsg ?brd ?bfi ?bga ?bgg ?bhd ?bic ?bss ?gW ?gP ?gG ?gJ ?gL ?gm1 ?gm2 ?gm3 ?gm4 ?gm5 ?gm6 ?z0 ?z1 ?z2 ?z3 ?z4 ?z5 ?z6 ?z7 ?z8 ?z9 ?z10 ?z11 ?z12 ?z13 ?z14 ?z15 ?oC ?vC ?pC
    (case aC => k_is); (case aCL => k_is); (case aCR => k_is); (case aCW => k_is); (case aCC => k_is); (case aCB => k_is)
    (case aBB => k_is); (case aNum => k_is); (case lNum => k_is); (case cNum => k_is); (case kNum => k_is); (case aCan => k_is)
    (case lCan => k_is); (case cCan => k_is); (case kCan => k_is); (case aHeld => k_is); (case lHeld => k_is); (case cHeld => k_is)
    (case kHeld => k_is); (case aGrown => k_is); (case lGrown => k_is); (case cGrown => k_is); (case kGrown => k_is); (case aAged => k_is)
    (case lAged => k_is); (case cAged => k_is); (case kAged => k_is); (case aEnded => k_is); (case lEnded => k_is); (case cEnded => k_is)
    (case kEnded => k_is); (case aREnt => k_is); (case lREnt => k_is); (case cREnt => k_is); (case kREnt => k_is); (case aPut => k_is)
    (case lPut => k_is); (case cPut => k_is); (case kPut => k_is); (case aAreK => k_is); (case lAreK => k_is); (case cAreK => k_is)
    (case kAreK => k_is); (case aIsKW => k_is); (case lIsKW => k_is); (case cIsKW => k_is); (case kIsKW => k_is); (case aIsK => k_is)
    (case lIsK => k_is); (case cIsK => k_is); (case kIsK => k_is); (case aCheckP => k_is); (case lCheckP => k_is); (case cCheckP => k_is)
    (case kCheckP => k_is); (case aPlayed => k_is); (case lPlayed => k_is); (case cPlayed => k_is); (case kPlayed => k_is); (case aPlain => k_is)
    (case lPlain => k_is); (case cPlain => k_is); (case kPlain => k_is); (case aCopied => k_is); (case lCopied => k_is); (case cCopied => k_is)
    (case kCopied => k_is); (case aNeed => k_is); (case lNeed => k_is); (case cNeed => k_is); (case kNeed => k_is); (case aChkCh => k_is)
    (case lChkCh => k_is); (case cChkCh => k_is); (case kChkCh => k_is); (case aIsCh => k_is); (case lIsCh => k_is); (case cIsCh => k_is)
    (case kIsCh => k_is); (case aCheaper => k_is); (case lCheaper => k_is); (case cCheaper => k_is); (case kCheaper => k_is); (case aJudge => k_is)
    (case lJudge => k_is); (case cJudge => k_is); (case kJudge => k_is); (case aProgTo => k_is); (case lProgTo => k_is); (case cProgTo => k_is)
    (case kProgTo => k_is); (case aIsRight => k_is); (case lIsRight => k_is); (case cIsRight => k_is); (case kIsRight => k_is); (case aDraw => k_is)
    (case lDraw => k_is); (case cDraw => k_is); (case kDraw => k_is); (case aSet => k_is); (case lSet => k_is); (case cSet => k_is)
    (case kSet => k_is); (case aPipe => k_is); (case lPipe => k_is); (case cPipe => k_is); (case kPipe => k_is); (case aThere => k_is)
    (case lThere => k_is); (case cThere => k_is); (case kThere => k_is); (case aLast => k_is); (case lLast => k_is); (case cLast => k_is)
    (case kLast => k_is); (case aLHeld => k_is); (case lLHeld => k_is); (case cLHeld => k_is); (case kLHeld => k_is); (case aRead => k_is)
    (case lRead => k_is); (case cRead => k_is); (case kRead => k_is); (case aLPlayed => k_is); (case lLPlayed => k_is); (case cLPlayed => k_is)
    (case kLPlayed => k_is); (case aLPlain => k_is); (case lLPlain => k_is); (case cLPlain => k_is); (case kLPlain => k_is); (case aLaw => k_is)
    (case lLaw => k_is); (case cLaw => k_is); (case kLaw => k_is); (case aCheapest => k_is); (case lCheapest => k_is); (case cCheapest => k_is)
    (case kCheapest => k_is); (case aInit => k_is); (case iInit => k_is); (case lInit => k_is); (case cInit => k_is); (case kInit => k_is)
    (case aIsIns => k_is); (case iIsIns => k_is); (case lIsIns => k_is); (case cIsIns => k_is); (case kIsIns => k_is); (case aInss => k_is)
    (case iInss => k_is); (case lInss => k_is); (case cInss => k_is); (case kInss => k_is); (case aStart => k_is); (case iStart => k_is)
    (case lStart => k_is); (case cStart => k_is); (case kStart => k_is); (case aFollow => k_is); (case iFollow => k_is); (case lFollow => k_is)
    (case cFollow => k_is); (case kFollow => k_is); (case aLater => k_is); (case iLater => k_is); (case lLater => k_is); (case cLater => k_is)
    (case kLater => k_is); (case aEnds => k_is); (case iEnds => k_is); (case lEnds => k_is); (case cEnds => k_is); (case kEnds => k_is)
    (case aPlInit => k_is); (case iPlInit => k_is); (case lPlInit => k_is); (case cPlInit => k_is); (case kPlInit => k_is); (case aRInit => k_is)
    (case iRInit => k_is); (case lRInit => k_is); (case cRInit => k_is); (case kRInit => k_is); (case aRBool => k_is); (case iRBool => k_is)
    (case lRBool => k_is); (case cRBool => k_is); (case kRBool => k_is); (case aWInit => k_is); (case iWInit => k_is); (case lWInit => k_is)
    (case cWInit => k_is); (case kWInit => k_is); (case aWBool => k_is); (case iWBool => k_is); (case lWBool => k_is); (case cWBool => k_is)
    (case kWBool => k_is); (case aChInit => k_is); (case iChInit => k_is); (case lChInit => k_is); (case cChInit => k_is); (case kChInit => k_is)
    (case aChShows => k_is); (case iChShows => k_is); (case lChShows => k_is); (case cChShows => k_is); (case kChShows => k_is); (case aBadPipeInit => k_is)
    (case iBadPipeInit => k_is); (case lBadPipeInit => k_is); (case cBadPipeInit => k_is); (case kBadPipeInit => k_is); (case pgC => k_is); (case hdC => k_is)
    (case poC => k_is); (case saC => k_is); (case mkC => k_is); (case kcC => k_is); (case nC0 => k_is); (case nC1 => k_is)
    (case nC2 => k_is); (case nC3 => k_is); (case nC4 => k_is); (case pgCL => k_is); (case hdCL => k_is); (case poCL => k_is)
    (case saCL => k_is); (case mkCL => k_is); (case kcCL => k_is); (case nCL0 => k_is); (case nCL1 => k_is); (case nCL2 => k_is)
    (case pgCR => k_is); (case hdCR => k_is); (case poCR => k_is); (case saCR => k_is); (case mkCR => k_is); (case kcCR => k_is)
    (case nCR0 => k_is); (case pgCW => k_is); (case hdCW => k_is); (case poCW => k_is); (case saCW => k_is); (case mkCW => k_is)
    (case kcCW => k_is); (case nCW0 => k_is); (case pgCC => k_is); (case hdCC => k_is); (case poCC => k_is); (case saCC => k_is)
    (case mkCC => k_is); (case kcCC => k_is); (case nCC0 => k_is); (case nCC1 => k_is); (case ia => k_is); (case ih => k_is)
    (case it => k_is); (case im => k_is); (case ic => k_is); (case iy => k_is); (case ii => k_is); (case iu => k_is)
    (case xB => k_is); (case rB => decide +kernel); (case bsa => k_is); (case bex => k_is); (case bty => k_is); (case bkc => k_is)
    (case bno => k_is); (case bsg => k_is); (case brd => k_is); (case bfi => k_is); (case bga => k_is); (case bgg => k_is)
    (case bhd => k_is); (case bic => k_is); (case bss => k_is); (case gW => k_is); (case gP => k_is); (case gG => k_is)
    (case gJ => k_is); (case gL => k_is); (case gm1 => k_is); (case gm2 => k_is); (case gm3 => k_is); (case gm4 => k_is)
    (case gm5 => k_is); (case gm6 => k_is); (case z0 => k_is); (case z1 => k_is); (case z2 => k_is); (case z3 => k_is); (case z4 => k_is)
    (case z5 => k_is); (case z6 => k_is); (case z7 => k_is); (case z8 => k_is); (case z9 => k_is); (case z10 => k_is)
    (case z11 => k_is); (case z12 => k_is); (case z13 => k_is); (case z14 => k_is); (case z15 => k_is); (case oC => k_is)
    (case vC => rfl); (case pC => kernel_rfl)
