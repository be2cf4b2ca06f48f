import PyProof.Rows.All
import Wide.All
import OpenK.AllK
import Wide.FinOn
import HandS.ForMost
import HandS.TupAny
import HandS.TupMul
import HandS.IsInst
import HandS.MakeKwOnly
import HandS.DictComp
import HandS.Deep
import HandS.More
import HandS.Defaults
import HandS.Evl
import HandS.Walk
import HandS.Conv
import HandS.Codes
import HandS.CallLocal
import HandS.ExcField
import HandS.ExcOwn
import HandS.WordsExc
import HandS.ExcInit
import HandS.FStr
import HandS.SetBool
import HandS.SetKeys
import HandS.Set
import HandS.Strs
import HandS.Comp
import PyProof.Rows.SortStr
import KE.GoesEnum
import HandS.WideBits
import HandS.SortKw
import HandS.ListItems
import KE.DatumOrd
import KE.KDictCopyH
import HandS.RaiseMore
import HandS.OwnEq
import HandS.DictEq
import PyProof.InstNe
import OpenK.KMake
import HandS.TupLe
import HandS.SetFor
import HandS.SortInts
import PyProof.CollectStr
import HandS.TryMany
import HandS.Sort
import KE.KSortTup
import HandS.Dict
import HandS.Iter
import KE.KRevIter
import KE.KDictPairs
import PyProof.FactsAll.object_1
import HandS.Rev
import HandS.Call
import PyProof.Rows.Chain
import HandS.EndTab
import PySem.Challenge.RW_beatwires_k12_whole_fastest
set_option Elab.async false
set_option linter.all false
set_option maxRecDepth 100000
set_option maxHeartbeats 2000000
/-! Sets of keys of any kind that can be walked: what a set comprehension makes, and sorted of it. -/
namespace LayT
open PySem PySem.Spec PyProof.Rows L2 PpSet
section
variable {P : Program} {w : World} {κ : Type} [DecidableEq κ] {kd : PySem.KeyKind P w κ}
abbrev EnS := Int × Value
/-- two members have no key in common -/
def Apart (kd : PySem.KeyKind P w κ) (e f : EnS) : Prop := ∀ k, ¬ (kd.is k e.2 = true ∧ kd.is k f.2 = true)
def HasKey (kd : PySem.KeyKind P w κ) (es : List EnS) (k : κ) : Prop := ∃ e ∈ es, kd.is k e.2 = true
theorem HasKey.perm {es fs : List EnS} {k : κ} (p : es.Perm fs) : HasKey kd es k ↔ HasKey kd fs k := ⟨fun ⟨e, h, q⟩ => ⟨e, p.mem_iff.mp h, q⟩, fun ⟨e, h, q⟩ => ⟨e, p.mem_iff.mpr h, q⟩⟩
theorem apart_perm {es fs : List EnS} (p : es.Perm fs) : es.Pairwise (Apart kd) ↔ fs.Pairwise (Apart kd) := p.pairwise_iff fun h k z => h k ⟨z.2, z.1⟩
/-- S tells the keys of the set at a, n their number; its table can be walked -/
def SetG (kd : PySem.KeyKind P w κ) (h : Heap) (a : Addr) (S : κ → Bool) (n : Nat) : Prop :=
  ∃ o es ep t, h.get? a = some o ∧ o.ExactSet ∧ o.data = .set es ep t ∧ ElemsOf kd es.toList ∧ es.toList.Pairwise (Apart kd) ∧ (∀ k, S k = true ↔ HasKey kd es.toList k) ∧ es.size < scanBound ∧ t.fits es.size = true ∧ es.size = n ∧ Ris t.place.toList ∧
    (w.params.followText "set-order" = true ∨ t.led = true)
variable {h h' : Heap} {a : Addr} {S : κ → Bool} {n : Nat}
theorem SetG.keep (R : SetG kd h a S n) (f : ∀ o, h.get? a = some o → h'.get? a = some o) : SetG kd h' a S n := let ⟨o, es, ep, t, q, r⟩ := R; ⟨o, es, ep, t, f o q, r⟩
theorem SetG.there (R : SetG kd h a S n) : ∃ o, h.get? a = some o := let ⟨o, _, _, _, q, _⟩ := R; ⟨o, q⟩
theorem SetG.of (R : SetG kd h a S n) : h.SetOf kd a S n := let ⟨o, es, ep, t, q, hx, hd, el, _, hm, hb, hf, hn, _⟩ := R; ⟨o, es, ep, t, q, hx, hd, el, hm, hb, hf, hn⟩
theorem setG_new {h : Heap} : SetG kd (h.push { cls := .type "set", dict := none, data := .set #[] 0 (.fresh 0 0 (!w.params.followText "set-order")) }) h.objs.size (fun _ => false) 0 := by
  refine ⟨_, #[], 0, _, Heap.get?_push_size _ rfl, ⟨rfl, rfl, rfl⟩, rfl, (fun e he => by simp at he), List.Pairwise.nil, (fun k => ⟨fun z => (by cases z), fun ⟨e, he, _⟩ => (by simp at he)⟩), (by decide), (by rfl), rfl, List.Pairwise.nil, ?_⟩
  show _ ∨ (!w.params.followText "set-order") = true
  cases w.params.followText "set-order" with
  | true => exact .inl rfl
  | false => exact .inr rfl
end
section
variable {P : Program} {w : World} {κ : Type} [DecidableEq κ] {kd : PySem.KeyKind P w κ} {A : Around} {E : Value → Shared → Prop} {s : Shared} {a : Addr} {S : κ → Bool} {n : Nat}
theorem put_end {give : Bool → Sem Unit} (quiet : ∀ (b : Bool) (s1 : Shared) (R : Unit → Shared → Prop), R () s1 → wpAny (model P w) A (give b) R E s1) {o : Obj} {old : Array EnS} {ep : Nat} {t0 : SetTable} (at_ : s.heap.get? a = some o) (ex : o.ExactSet) (dat : o.data = .set old ep t0)
    {es : Array EnS} {t : SetTable} {S' : κ → Bool} (el : ElemsOf kd es.toList) (ap : es.toList.Pairwise (Apart kd)) (mem : ∀ k, S' k = true ↔ HasKey kd es.toList k) (few : es.size < scanBound) (fit : t.fits es.size = true) (ris : Ris t.place.toList)
    (led : w.params.followText "set-order" = true ∨ t.led = true) {was : Bool} {R : Option Bool → Shared → Prop} (k : ∀ h', Heap.SameBut a s.heap h' → SetG kd h' a S' es.size → R (some true) { s with heap := h' }) :
    wpAny (model P w) A (do
        storeSet a es t
        if (!was && t.tooFull) = true then do
            give (relayAll t es (SetTable.grown es.size)).2.2
            storeSet a (relayAll t es (SetTable.grown es.size)).1 (relayAll t es (SetTable.grown es.size)).2.1
            pure (some true)
          else pure (some true)) R E s := by
  refine wpAny_bind (wpAny_storeSet_of at_ dat ?_ (fits_of_scanBound few))
  have at1 := storeB_at (es' := es) (t' := t) at_ dat
  have same1 := Heap.SameBut.update s.heap a (Obj.putSet es t)
  split
  · have p := relayAll_perm t es (SetTable.grown es.size); have f3 := relayAll_fits t es (SetTable.grown es.size)
    have r3 := relayAll_ris t es (SetTable.grown es.size); have l3 := relayAll_led t es (SetTable.grown es.size)
    generalize relayAll t es (SetTable.grown es.size) = W at p f3 r3 l3 ⊢
    obtain ⟨es2, t2, gv⟩ := W
    dsimp only at p f3 r3 l3 ⊢
    have sz2 : es2.size = es.size := by rw [← Array.length_toList, p.length_eq, Array.length_toList]
    have few2 : es2.size < scanBound := by rw [sz2]; exact few
    refine wpAny_bind (quiet _ _ _ (wpAny_bind (wpAny_storeSet_of at1 rfl ?_ (fits_of_scanBound few2))))
    refine wpAny_pure (k _ (same1.trans (Heap.SameBut.update _ a _)) ?_)
    exact ⟨_, es2, _, t2, storeB_at (es' := es2) (t' := t2) at1 rfl, ex, rfl, fun e he => el e (p.mem_iff.mp he), (apart_perm p).mpr ap, fun x => (mem x).trans (HasKey.perm p).symm, few2, f3, sz2, r3, led.imp id fun z => by rw [l3]; exact z⟩
  · exact wpAny_pure (k _ same1 ⟨_, es, _, t, at1, ex, rfl, el, ap, mem, few, fit, rfl, ris, led⟩)
theorem put_hashed {x : κ} {v : Value} (isx : kd.is x v = true) (sc : v.scannable = true) {Q : Bool → Shared → Prop} (R : SetG kd s.heap a S n) (room : n + 1 < scanBound)
    (go : ∀ h', Heap.SameBut a s.heap h' → SetG kd h' a (fun j => S j || decide (j = x)) (if S x = true then n else n + 1) → Q (!S x) { s with heap := h' }) : wpAny (model P w) A (setAddHashed a v (kd.hash x)) Q E s := by
  obtain ⟨o, es, ep, t, at_, ex, dat, el, ap, mem, few, fit, num, ris, led⟩ := R
  unfold setAddHashed setAddHashedIn; refine wpAny_holding (wpAny_bind (wpAny_setState_of at_ dat fit ?_))
  dsimp only
  rw [byScan_of sc few el]
  simp only [↓reduceIte]
  unfold setAddByScan; refine wpAny_bind (wpAny_bind (wpAny_rule (wpAny_bind (wpAny_setScan_of isx at_ dat fit el ?_))))
  cases found : List.findIdx? (fun e => kd.is x e.2) es.toList with
  | some j =>
    dsimp only
    obtain ⟨jl, jx, _⟩ := List.findIdx?_eq_some_iff_getElem.mp found
    have Sx : S x = true := (mem x).mpr ⟨es.toList[j], List.getElem_mem jl, jx⟩
    have q := go s.heap (Heap.SameBut.refl a s.heap) ⟨o, es, ep, t, at_, ex, dat, el, ap, fun i => by
      rw [Bool.or_eq_true, decide_eq_true_eq, ← mem i]; exact ⟨fun z => z.elim id fun e => e ▸ Sx, .inl⟩, few, fit, by rw [if_pos Sx]; exact num, ris, led⟩
    rw [Sx] at q
    exact wpAny_pure (wpAny_pure q)
  | none =>
    dsimp only
    have none_ : ∀ e ∈ es.toList, ¬ kd.is x e.2 = true := fun e he z => by
      have c := List.findIdx?_eq_none_iff.mp found e he
      rw [z] at c
      cases c
    have Sx : S x = false := by
      cases q : S x with
      | false => rfl
      | true => obtain ⟨e, he, z⟩ := (mem x).mp q; exact absurd z (none_ e he)
    have rl : ∀ (b : Bool) {s1 : Shared} {R : Unit → Shared → Prop}, R () s1 → wpAny (model P w) A (match b with | true => rule "set.scan.the-table-gave-way" | false => pure ()) R E s1 := fun b s1 R q => by cases b <;> first | exact wpAny_pure q | exact wpAny_rule q
    have p := layNew_perm t es (kd.hash x) v; have f1 := layNew_fits t es (kd.hash x) v
    have r1 := layNew_ris t es (kd.hash x) v ris; have l1 := layNew_led t es (kd.hash x) v
    generalize layNew t es (kd.hash x) v = W at p f1 r1 l1 ⊢
    obtain ⟨es1, t1, was, gv⟩ := W
    dsimp only at p f1 r1 l1 ⊢
    rw [Array.toList_push] at p
    have pc : es1.toList.Perm ((kd.hash x, v) :: es.toList) := p.trans (List.perm_append_singleton _ _)
    have el1 : ElemsOf kd es1.toList := fun e he => by
      rcases List.mem_cons.mp (pc.mem_iff.mp he) with z | z
      · rw [z]; exact ⟨⟨x, isx, rfl⟩, sc⟩
      · exact el e z
    have ap1 : es1.toList.Pairwise (Apart kd) := (apart_perm pc).mpr (List.pairwise_cons.mpr ⟨fun e he y z => none_ e he (by rw [kd.inj _ _ _ isx z.1]; exact z.2), ap⟩)
    have mem1 : ∀ i, (S i || decide (i = x)) = true ↔ HasKey kd es1.toList i := fun i => by
      rw [Bool.or_eq_true, decide_eq_true_eq, mem i, HasKey.perm pc]
      constructor
      · rintro (⟨e, he, z⟩ | z)
        · exact ⟨e, List.mem_cons_of_mem _ he, z⟩
        · exact ⟨_, List.mem_cons_self, by rw [z]; exact isx⟩
      · rintro ⟨e, he, z⟩
        rcases List.mem_cons.mp he with q | q
        · rw [q] at z; exact .inr (kd.inj _ _ _ z isx)
        · exact .inl ⟨e, q, z⟩
    have num1 : es1.size = n + 1 := by rw [← Array.length_toList, pc.length_eq, List.length_cons, Array.length_toList, num]
    have few1 : es1.size < scanBound := by rw [num1]; exact room
    have led1 : w.params.followText "set-order" = true ∨ t1.led = true := led.imp id fun z => by rw [l1]; exact z
    have fin : ∀ h', Heap.SameBut a s.heap h' → SetG kd h' a (fun j => S j || decide (j = x)) es1.size → Q true { s with heap := h' } := fun h' sb r => by
      have q := go h' sb
      rw [Sx] at q
      rw [num1] at r
      exact q r
    refine wpAny_bind (rl _ ?_)
    split
    · refine wpAny_bind ?_
      rw [hashByValue_scannable 8 sc]; refine wpAny_pure ?_
      refine put_end (fun b s1 R q => by cases b <;> first | exact wpAny_pure q | exact wpAny_rule q) at_ ex dat el1 ap1 mem1 few1 ?_ ?_ ?_ fun h' sb r => wpAny_pure (fin h' sb r)
      · first | (split <;> first | exact f1 | exact SetTable.fits_plain_off f1) | exact f1
      · first | (split <;> exact r1) | exact r1
      · first | (split <;> exact led1) | exact led1
    · refine wpAny_bind (wpAny_pure ?_)
      simp only [↓reduceIte]
      exact put_end (fun b s1 R q => by cases b <;> first | exact wpAny_pure q | exact wpAny_rule q) at_ ex dat el1 ap1 mem1 few1 f1 r1 led1 fun h' sb r => wpAny_pure (fin h' sb r)
/-- set.add -/
theorem put_add {x : κ} {v : Value} (isx : kd.is x v = true) (sc : v.scannable = true) {Q : Value → Shared → Prop} (R : SetG kd s.heap a S n) (room : n + 1 < scanBound)
    (go : ∀ h', Heap.SameBut a s.heap h' → SetG kd h' a (fun j => S j || decide (j = x)) (if S x = true then n else n + 1) → Q .none { s with heap := h', toks := s.toks + 1 }) : wpAny (model P w) A (call (.builtin "set.add") [.ref a, v]) Q E s := by
  have so : s.heap.SetOf kd a S n := R.of
  refine wpAny_call_entry F.slot_set_add so.typeIs F.entry_set_add ?_ (F.args_set_add_2 _ _)
  unfold Builtin.«set.add» Builtin.Frozenset.oneOther; simp only [List.isEmpty_nil, bind_assoc]
  unfold Builtin.Frozenset.addrOf setAdd; refine wpAny_bind (wpAny_pure ?_)
  try dsimp only
  refine wpAny_bind (wpAny_pure ?_)
  try dsimp only
  refine wpAny_bind (wpAny_holding (wpAny_bind (kd.pyHash isx (put_hashed (s := { s with toks := s.toks + 1 }) isx sc R room fun h' sb r => ?_))))
  show wpAny _ _ (ret Value.none) _ _ _
  exact wpAny_pure ⟨_, rfl, go h' sb r⟩
end
end LayT
set_option maxHeartbeats 2000000
namespace LayT
open PySem PySem.Spec PyProof.Rows L2 PpSet
/-- a set of keys (ints, texts) that can be walked -/
def SetW (P : Program) (w : World) (a : Addr) (S : Key → Bool) (n : Nat) : HO := .ext fun h => SetG (mixKind P w) h a S n
section
variable {P : Program} {w : World} {H : Hp} {h : Heap} {a : Addr} {S : Key → Bool} {n : Nat}
theorem SetW.new (R : SetG (mixKind P w) h a S n) : ObjOk P w H h a (SetW P w a S n) := ⟨R, R.there, fun _ _ p k => SetG.keep p k⟩
theorem SetW.get {X : Cx} {pins : List (Addr × Obj)} {σ : L2.St} {s : Shared} (I : Inv X pins σ H s) (e : H a = some (SetW X.prog X.w a S n)) : SetG (mixKind X.prog X.w) s.heap a S n := (I.hok a _ e).1
/-- one more key -/
theorem add_in {X : Cx} {pins : List (Addr × Obj)} {σ : L2.St} {s : Shared} {E : Value → Shared → Prop} {Q : Value → Shared → Prop} {k : Key} {u : Value} (I : Inv X pins σ H s) (e : H a = some (SetW X.prog X.w a S n)) (room : n + 1 < scanBound) (ru : RelV (kV k) u)
    (go : ∀ s', Inv X pins σ (upd H a (SetW X.prog X.w a (fun j => S j || decide (j = k)) (if S k = true then n else n + 1))) s' → Q .none s') : wpAny (model X.prog X.w) X.A (call (.builtin "set.add") [.ref a, u]) Q E s :=
  put_add (kV_is ru) (key_scan ru) (SetW.get I e) room fun h' same R => go _ (I.write (e := a) (t' := s.toks + 1) (by rw [e]; trivial) (.inl rfl) (fun b o nb q => (same.2 b nb).trans q) R.there (SetW.new R))
end
section
variable {X : Cx}
/-- {elt for target in iter if ..}, elt a key: D the new set -/
def tScK (P : Program) (w : World) (wi : TI) (g : TG) (tt : TT) (te : TE) (vs : List Nat) : TE := fun σ H Q => wi σ H fun J H1 => ∀ D, H1 D = none → ∃ W : Nat → Nat → Hp → Prop, (∃ m, W 0 m (upd H1 D (SetW P w D (fun _ => false) 0))) ∧ ∀ i m H, W i m H →
  (J.stop i H ∧ Q (.ref D) H) ∨ (J.go i H ∧ ∃ N : Hp → Prop, (∀ G, N G → ∃ m', m' < m ∧ W (i + 1) m' G) ∧ ∀ x G, J.yld i H x G → g x (wipe σ vs) G fun σ2 G2 => wipe σ2 vs = wipe σ vs ∧ tt σ2 G2 fun b G3 =>
    if b = true then te σ2 G3 fun y G4 => ∃ (k : Key) (S : Key → Bool) (n : Nat), y = kV k ∧ G4 D = some (SetW P w D S n) ∧ n + 1 < scanBound ∧ N (upd G4 D (SetW P w D (fun j => S j || decide (j = k)) (if S k = true then n else n + 1))) else N G3)
abbrev theSet (w : World) : Obj := { cls := .type "set", dict := none, data := .set #[] 0 (.fresh 0 0 (!w.params.followText "set-order")) }
theorem core {pins : List (Addr × Obj)} {s : Shared} {σ : L2.St} {H : Hp} {Q : VK} {elt tg iter : Expr} {ifs : List Expr} {scope : Scope} {own : List (PySem.Str × Nat)} {pos pos' : Pos} {wi : TI} {g : TG} {tt : TT} {te : TE} {use : Option (Value → Sem Unit)} {Qf : Value → Shared → Prop}
    (calm : X.calm = true) (nd : X.N.Nodup) (I : Inv X pins σ H s) (src : PI X tg iter wi) (blk : BlkOk X.N X.env.scope scope own) (pgs : ∀ (s : Shared) (H : Hp) (C : Addr) (cl : List (PySem.Str × Addr)) (fp : List Addr), PG (X.blk s H scope (compEnvC scope cl C X.env) fp) tg g)
    (pts : ∀ (s : Shared) (H : Hp) (C : Addr) (cl : List (PySem.Str × Addr)) (fp : List Addr), PTs (X.blk s H scope (compEnvC scope cl C X.env) fp) ifs tt) (pes : ∀ (s : Shared) (H : Hp) (C : Addr) (cl : List (PySem.Str × Addr)) (fp : List Addr), PE (X.blk s H scope (compEnvC scope cl C X.env) fp) elt te)
    (fold : ∀ x, foldedSetIterable iter X.env x = pure x) (wish : tScK X.prog X.w wi g tt te (own.map (·.2)) σ H Q)
    (fin : ∀ D C s' m G, Inv X pins σ G s' → Q (.ref D) G → s'.heap.Ns C m → FpOk X pins G C → compPost (model X.prog X.w) X.A X.xe use Qf (.ref D) C (.ok .next) s') :
    wpAny (model X.prog X.w) X.A (comprehension (.SetComp elt [⟨tg, iter, ifs, 0⟩] scope pos) scope X.env pos' (newSet (.type "set")) false (eval iter X.env) use) Qf X.xe s := by
  have free : ∀ y ∈ scope.names, y.2 = .free → ∃ c, X.env.cells.lookup y.1 = some c := fun y hy e => by
    rcases blk.free y hy e with z | z
    · exact I.ok.has _ (.inl z)
    · exact I.ok.has _ (.inr z)
  refine wpAny_comprehension_free (use := use) rfl fold (closure_ok free) blk.kind (fun y hy e => by rw [blk.uniq y hy, e]) (thn (src.run pins s σ H _ I wish) fun xv sA hx => thn hx fun itv sB hB => ?_)
  obtain ⟨it, fp, tn, J, HB, rfl, IB, T, stB, fpB, q⟩ := hB
  refine newSet_ok (newEnv_comp ?_)
  generalize eD : sB.heap.objs.size = D
  have freeD : HB D = none := IB.hok.fresh (Nat.le_of_eq eD)
  obtain ⟨W, ⟨mZ, wZ⟩, turn⟩ := q D freeD
  generalize eC : ({ sB with heap := sB.heap.push (theSet X.w) } : Shared) = sC
  have IC : Inv X pins σ (upd HB D (SetW X.prog X.w D (fun _ => false) 0)) sC := by
    rw [← eC]; refine IB.laid (t' := sB.toks) (fun b o e => Heap.get?_push_of_some _ e) (Nat.le_of_eq eD) ?_
    rw [← eD]; exact SetW.new setG_new
  have hC : sC.heap = sB.heap.push (theSet X.w) := by rw [← eC]
  have small : ∀ b ∈ fp, b < sB.heap.objs.size := fun b hb => let ⟨_, e, _⟩ := T.obj _ _ stB b hb; Heap.lt_size e
  have fpC : ∀ b ∈ fp, FpOk X pins (upd HB D (SetW X.prog X.w D (fun _ => false) 0)) b ∧ b < sC.heap.objs.size := fun b hb => by
    have lt := small b hb
    refine ⟨⟨?_, (fpB b hb).2⟩, by rw [hC, Heap.size_push]; exact Nat.lt_succ_of_lt lt⟩
    rw [upd_ne (by rw [← eD]; exact Nat.ne_of_lt lt)]; exact (fpB b hb).1
  have stC : tn 0 sC.heap := T.keep _ _ _ stB fun b _ o e => by rw [hC]; exact Heap.get?_push_of_some _ e
  have IE := block_start IC blk nd fpC
  have hg := pgs sC (upd HB D (SetW X.prog X.w D (fun _ => false) 0)) sC.heap.objs.size (cellsFrom (sC.heap.objs.size + 1) scope.names (cloFrom X.env.cells scope.names [])) fp
  have ht := pts sC (upd HB D (SetW X.prog X.w D (fun _ => false) 0)) sC.heap.objs.size (cellsFrom (sC.heap.objs.size + 1) scope.names (cloFrom X.env.cells scope.names [])) fp
  have he := pes sC (upd HB D (SetW X.prog X.w D (fun _ => false) 0)) sC.heap.objs.size (cellsFrom (sC.heap.objs.size + 1) scope.names (cloFrom X.env.cells scope.names [])) fp
  show codeAny _ _ (.compStart (.SetComp elt [⟨tg, iter, ifs, 0⟩] scope pos) 0 (.ref it) (.ref D) (compEnvC scope (cellsFrom (sC.heap.objs.size + 1) scope.names (cloFrom X.env.cells scope.names [])) sC.heap.objs.size X.env)) (compPost (model X.prog X.w) X.A X.xe use Qf (.ref D) sC.heap.objs.size) { sC with heap := pushCells (sC.heap.push { cls := .type "dict", data := .dict #[] }) scope.names }
  have off : ∀ b ∈ fp, (upd HB D (SetW X.prog X.w D (fun _ => false) 0)) b = none := fun b hb => (fpC b hb).1.1
  generalize eEnv : compEnvC scope (cellsFrom (sC.heap.objs.size + 1) scope.names (cloFrom X.env.cells scope.names [])) sC.heap.objs.size X.env = env at IE hg ht he ⊢
  have loc : env.locals = sC.heap.objs.size := by subst eEnv; rfl
  generalize eH : upd HB D (SetW X.prog X.w D (fun _ => false) 0) = HC at IC IE hg ht he wZ off fpC
  generalize eS : ({ sC with heap := pushCells (sC.heap.push { cls := .type "dict", data := .dict #[] }) scope.names } : Shared) = sD at IE ⊢
  have stD : tn 0 sD.heap := T.keep _ _ _ stC fun b _ o e => by rw [← eS]; exact pushCells_keeps _ _ _ _ (Heap.get?_push_of_some _ e)
  have foot : ∀ {σ' : L2.St} {G : Hp} {s' : Shared}, Inv (X.blk sC HC scope env fp) [] σ' G s' → (∀ b ∈ fp, G b = none) → ∀ b ∈ fp, FpOk (X.blk sC HC scope env fp) [] G b := fun {σ' G s'} I' z b hb =>
    ⟨z b hb, (I'.ok.exf b hb).1, I'.ok.exfs b hb, .inl hb, fun x c e => (I'.ok.exf b hb).2 x c e, fun p hp => absurd (show p ∈ ([] : List (Addr × Obj)) ++ [] from hp) (by simp)⟩
  have loop : codeAny (model X.prog X.w) X.A (.compLoop (.SetComp elt [⟨tg, iter, ifs, 0⟩] scope pos) 0 (.ref it) (.ref D) env) (compPost (model X.prog X.w) X.A X.xe use Qf (.ref D) sC.heap.objs.size) sD := by
    refine compLoopS_any (fun n s' => ∃ i G, Inv (X.blk sC HC scope env fp) [] (wipe σ (own.map (·.2))) G s' ∧ tn i s'.heap ∧ (∀ b ∈ fp, G b = none) ∧ W i n G) ?_ mZ ⟨0, HC, IE, stD, off, wZ⟩
    rintro n sF ⟨i, HF, IF, stF, nF, wF⟩
    rcases turn i n HF wF with ⟨stop, done⟩ | ⟨goes, N, less, step⟩
    · refine thnF (T.done (X.blk sC HC scope env fp) rfl rfl rfl calm i [] sF _ HF (fun _ _ => False) IF (foot IF nF) stF stop) fun r sG ⟨er, IG⟩ => ?_
      subst er
      have IH : Inv X pins σ HF sG := IC.call' (ch := fp) IG.os IG.base IG.hok IG.bare fun b hb => ⟨(fpC b hb).1.2.2.2.1, (fpC b hb).1.2.1, (fpC b hb).1.2.2.2.2.1, (fpC b hb).1.2.2.2.2.2⟩
      have nC : HF sC.heap.objs.size = none := by
        have z : HF env.locals = none := IG.free
        rw [loc] at z; exact z
      obtain ⟨m, ns, _⟩ := IG.loc
      have ns' : sG.heap.Ns env.locals m := ns
      rw [loc] at ns'
      exact fin D sC.heap.objs.size sG m HF IH done ns' (IC.fpOk (Nat.le_refl _) nC)
    · refine thnF (T.item (X.blk sC HC scope env fp) rfl rfl rfl calm i [] sF _ HF (fun _ _ => False) IF (foot IF nF) stF goes) fun r sG ⟨u, er, hG⟩ => ?_
      subst er
      refine thnF hG fun _ sI ⟨x, HI, II, rI, yI, stI, nI⟩ => ?_
      refine thnF (hg.run _ sI _ HI x u _ (II.pinned (foot II nI) (T.obj _ _ stI)) rI (step x HI yI)) fun _ sJ ⟨σJ, HJ, IJ, wJ, qJ⟩ => ?_
      refine thnF (ht.run _ sJ σJ HJ _ IJ qJ) fun b sK ⟨HK, IK, qK⟩ => ?_
      have last : ∀ {s' : Shared} {G : Hp}, Inv (X.blk sC HC scope env fp) ([] ++ pinsAt fp sI.heap) σJ G s' → N G → ∃ m, m < n ∧ ∃ i G, Inv (X.blk sC HC scope env fp) [] (wipe σ (own.map (·.2))) G s' ∧ tn i s'.heap ∧ (∀ b ∈ fp, G b = none) ∧ W i m G := fun {s' G} I' nx => by
        obtain ⟨m', lt, w'⟩ := less G nx
        have pin : ∀ b ∈ fp, ∀ o, sI.heap.get? b = some o → s'.heap.get? b = some o ∧ G b = none := fun b hb o e => let z := I'.pin (b, o) (List.mem_append_right _ (List.mem_append_right _ (mem_pinsAt hb e))); ⟨z.1, z.2.1⟩
        have len : (wipe σ (own.map (·.2))).length = σJ.length := by rw [← wJ, wipe_length]
        refine ⟨m', lt, i + 1, G, (I'.unpinned (pins := [])).weak len (fun j v e => ?_), T.keep _ _ _ stI fun b hb o e => (pin b hb o e).1, fun b hb => ?_, w'⟩
        · rw [← wJ] at e; exact (wipe_some e).1
        · obtain ⟨o, e, _⟩ := T.obj _ _ stI b hb
          exact (pin b hb o e).2
      cases b with
      | false => simp only [Bool.false_eq_true, if_false] at qK ⊢; exact last IK qK
      | true =>
        simp only [if_true] at qK ⊢
        refine thnF (he.run _ sK σJ HK _ IK qK) fun z sL ⟨y, HL, IL, rL, k, S, num, ey, hD, room, nx⟩ => ?_
        subst ey
        exact add_in (X := X.blk sC HC scope env fp) IL hD room rL fun s' I' => last I' nx
  exact codeAny_compStart_set loop (T.self X.A 0 _ _ _ stD loop)
theorem pe_scK {elt tg iter : Expr} {ifs : List Expr} {scope : Scope} {own : List (PySem.Str × Nat)} {pos : Pos} {wi : TI} {g : TG} {tt : TT} {te : TE} (calm : X.calm = true) (nd : X.N.Nodup) (src : PI X tg iter wi) (blk : BlkOk X.N X.env.scope scope own)
    (pgs : ∀ (s : Shared) (H : Hp) (C : Addr) (cl : List (PySem.Str × Addr)) (fp : List Addr), PG (X.blk s H scope (compEnvC scope cl C X.env) fp) tg g) (pts : ∀ (s : Shared) (H : Hp) (C : Addr) (cl : List (PySem.Str × Addr)) (fp : List Addr), PTs (X.blk s H scope (compEnvC scope cl C X.env) fp) ifs tt)
    (pes : ∀ (s : Shared) (H : Hp) (C : Addr) (cl : List (PySem.Str × Addr)) (fp : List Addr), PE (X.blk s H scope (compEnvC scope cl C X.env) fp) elt te) (fold : ∀ x, foldedSetIterable iter X.env x = pure x := by intro _; rfl) :
    PE X (.SetComp elt [⟨tg, iter, ifs, 0⟩] scope pos) (tScK X.prog X.w wi g tt te (own.map (·.2))) := by
  refine ⟨fun pins s σ H Q I wish => ?_⟩
  rw [eval_SetComp]
  refine core calm nd I src blk pgs pts pes fold wish fun D C s' m G I' q ns f => ⟨m, ns, fun h'' same => ?_⟩
  obtain ⟨f0, f1, f2, f3, f4, f5⟩ := f
  exact ⟨.ref D, G, I'.turned (t' := s'.toks) (fun b o nb e => (same.2 b nb).trans e) f0 f1 f3 f4 f5, rfl, q⟩
end
end LayT
set_option maxHeartbeats 2000000
namespace LayT
open PySem PySem.Spec PyProof.Rows L2 PpSet
/-! ### sorted(a set of texts) -/
def textOf (v : Value) : Str := match v with
  | .str x _ => x
  | _ => Str.empty
theorem texts_of : ∀ (l : List Value), (∀ v ∈ l, ∃ x t, v = Value.str x t) → StrsAre l (l.map textOf)
  | [], _ => .nil
  | v :: l, f => by
    obtain ⟨x, t, rfl⟩ := f v List.mem_cons_self
    exact .cons x t (texts_of l fun u hu => f u (List.mem_cons_of_mem _ hu))
theorem is_text {P : Program} {w : World} {x y : Str} {t : Tok} : (mixKind P w).is (Sum.inr x : Key) (.str y t) = true ↔ x = y := by
  constructor
  · intro h
    rcases keyIs_shape (show keyIs (Sum.inr x : Key) (.str y t) = true from h) with ⟨i, t', e, _⟩ | ⟨x', t', e, e'⟩
    · cases e
    · cases e
      cases e'
      rfl
  · rintro rfl
    exact kV_is (show RelV (kV (Sum.inr x : Key)) (.str x t) from ⟨t, rfl⟩)
section
variable {P : Program} {w : World} {A : Around} {E : Value → Shared → Prop} {s : Shared} {a : Addr} {S : Key → Bool} {n : Nat}
theorem sorted_texts {Q : Value → Shared → Prop} (R : SetG (mixKind P w) s.heap a S n) (calm : A.handled = none) (few : n < 64) (txt : ∀ k, S k = true → ∃ x, k = (Sum.inr x : Key))
    (go : ∀ s' p (out : Array Value) (c : Nat) (ys : List Str), (∀ b o, s.heap.get? b = some o → s'.heap.get? b = some o) → s'.gens = s.gens → s'.os = s.os → s.heap.objs.size ≤ p → s'.heap.get? p = some (seqObj "list" out c) → StrsAre out.toList ys →
      sortedS ys = true → ys.Nodup → (∀ x, x ∈ ys ↔ S (Sum.inr x) = true) → ys.length = n → Q (.ref p) s') : wpAny (model P w) A (call (.builtin "sorted") [.ref a]) Q E s := by
  obtain ⟨o, es, ep, t, at_, ex, dat, el, ap, mem, sm, fit, num, ris, led⟩ := R
  have isT : ∀ e ∈ es.toList, ∃ x tk, e.2 = Value.str x tk := fun e he => by
    obtain ⟨⟨k, hk, _⟩, _⟩ := el e he
    obtain ⟨x, rfl⟩ := txt k ((mem k).mpr ⟨e, he, hk⟩)
    rcases keyIs_shape (show keyIs (Sum.inr x : Key) e.2 = true from hk) with ⟨i, tk, z, _⟩ | ⟨y, tk, _, z⟩
    · cases z
    · exact ⟨y, tk, z⟩
  have key : ∀ e ∈ es.toList, ∀ x, (mixKind P w).is (Sum.inr x : Key) e.2 = true ↔ x = textOf e.2 := fun e he x => by
    obtain ⟨y, tk, z⟩ := isT e he
    rw [z]; exact is_text
  refine Calls.call_function_entry kind_sorted plain_sorted entry_sorted (args_sorted1 _) ?_
  unfold Builtin.«sorted»; refine wpAny_bind (m := checkCount "sorted" 1 1 _) (wpAny_pure (wpAny_bind (collect_set (A := A.in1) calm ⟨o, at_, ex.1, dat⟩ fit sm ris led fun sB vs keep grow gens os perm => ?_)))
  have lenV : vs.length = n := by rw [perm.length_eq, List.length_map, Array.length_toList]; exact num
  have are : StrsAre vs (vs.map textOf) := texts_of vs fun v hv => by
    obtain ⟨e, he, rfl⟩ := List.mem_map.mp (perm.mem_iff.mp hv)
    exact isT e he
  have permT : (vs.map textOf).Perm (es.toList.map fun e => textOf e.2) := by
    have q := perm.map textOf
    rw [List.map_map] at q; exact q
  have ndT : (es.toList.map fun e => textOf e.2).Nodup := by
    refine List.pairwise_map.mpr (List.Pairwise.imp_of_mem (fun {e f} he hf d z => ?_) ap)
    exact d (Sum.inr (textOf e.2)) ⟨(key e he _).mpr rfl, (key f hf _).mpr z⟩
  have memT : ∀ x, x ∈ (es.toList.map fun e => textOf e.2) ↔ S (Sum.inr x) = true := fun x => by
    rw [mem, List.mem_map]
    exact ⟨fun ⟨e, he, z⟩ => ⟨e, he, (key e he x).mpr z.symm⟩, fun ⟨e, he, z⟩ => ⟨e, he, ((key e he x).mp z).symm⟩⟩
  refine wpAny_bind (wpAny_newList ?_ (by rw [lenV, sizeLine_eq]; omega))
  have newL : (sB.heap.push (seqObj "list" vs.toArray 0)).get? sB.heap.objs.size = some (seqObj "list" vs.toArray 0) := Heap.get?_push_size _ rfl
  refine wpAny_bind (wpAny_holding (wpAny_call_entry slot_list_sort ⟨_, newL, rfl⟩ entry_list_sort (list_sort_treeK strKind_oneLt newL are.keysOf (fun v1 v2 rest e => keyKind_strs (by rw [← e]; exact are)) (by rw [lenV]; exact few) fun st p1 p2 => ⟨_, rfl, ?_⟩) (args_list_sort _)))
  obtain ⟨ys, b1, b2, b3⟩ := sorted_out_str are p1 p2
  obtain ⟨c, hc⟩ := sortedHeap_at (vs := vs) (out := (arrOf st).map (·.2)) newL
  have pn := b2.trans permT
  refine wpAny_pure ⟨_, rfl, go _ sB.heap.objs.size ((arrOf st).map (·.2)) c ys (fun b u e => ?_) gens os grow hc b1 b3 (pn.nodup_iff.mpr ndT) (fun x => by rw [pn.mem_iff, memT]) ?_⟩
  · have q := keep b u e
    have lt := Heap.lt_size q
    show (sortedHeap (sB.heap.push (seqObj "list" vs.toArray 0)) sB.heap.objs.size vs ((arrOf st).map (·.2))).get? b = some u
    rw [sortedHeap_old (Nat.ne_of_lt lt) (by rw [size_push']; exact Nat.lt_succ_of_lt lt)]; exact Heap.get?_push_of_some _ q
  · rw [pn.length_eq, List.length_map, Array.length_toList]; exact num
end
def rSortW (P : Program) (w : World) : List V → Hp → VK → Prop := fun vs H Q => ∃ (a : Addr) (S : Key → Bool) (n : Nat), vs = [V.ref a] ∧ H a = some (SetW P w a S n) ∧ n < 64 ∧ (∀ k, S k = true → ∃ x, k = (Sum.inr x : Key)) ∧
  ∀ (ys : List Str) (p : Addr), sortedS ys = true → ys.Nodup → (∀ x, x ∈ ys ↔ S (Sum.inr x) = true) → ys.length = n → H p = none → Q (.ref p) (upd H p (.lst (ys.map V.str)))
theorem cr_sortW {X : Cx} (calm : X.calm = true) : CallR X (.builtin "sorted") (rSortW X.prog X.w) := by
  intro pins s σ H vs us Q I r wish
  obtain ⟨a, S, n, rfl, e, few, txt, q⟩ := wish
  rw [Vals.ref1 r]
  refine sorted_texts (SetW.get I e) (I.ok.hd calm) few txt fun s' p out c ys keep gens os new at_ are srt nd mem len => ?_
  have small : (ys.map V.str).length ≤ sizeLine := by rw [List.length_map, len, sizeLine_eq]; omega
  have free : H p = none := I.hok.fresh new
  have J : Inv X pins σ (upd H p (.lst (ys.map V.str))) { s with heap := s'.heap, gens := s'.gens, drawn := s'.drawn, toks := s'.toks } :=
    I.call (ch := []) (Un.laid keep new free) (I.hok.laid keep new ⟨small, out.toList, c, vals_of_strs are, at_⟩) (by rw [gens]; exact I.bare) (fun _ z => nomatch z)
  have eS : s' = { s with heap := s'.heap, gens := s'.gens, drawn := s'.drawn, toks := s'.toks } := by
    cases s'; cases s; cases os; rfl
  rw [eS]
  exact ⟨.ref p, _, J, rfl, q ys p srt nd mem len free⟩
/-! ### walks of a set comprehension -/
theorem scK_it {P : Program} {w : World} {J : It} {m : Nat} {G : Hp → Prop} {Y : Nat → Hp → V → Hp → Prop} (walk : Walk J m G Y) {g : TG} {tt : TT} {te : TE} {vs : List Nat} {σ : L2.St} {H1 : Hp} {D : Addr} {Qd : Hp → Prop} (Pv : Nat → Hp → Prop) (start : Pv 0 (upd H1 D (SetW P w D (fun _ => false) 0)))
    (stays : ∀ i H, i ≤ m → Pv i H → G H) (turn : ∀ i x H H', i < m → Pv i H → Y i H x H' → g x (wipe σ vs) H' fun σ2 H2 => wipe σ2 vs = wipe σ vs ∧ tt σ2 H2 fun b H3 =>
      if b = true then te σ2 H3 fun y H4 => ∃ (k : Key) (S : Key → Bool) (n : Nat), y = kV k ∧ H4 D = some (SetW P w D S n) ∧ n + 1 < scanBound ∧ Pv (i + 1) (upd H4 D (SetW P w D (fun j => S j || decide (j = k)) (if S k = true then n else n + 1))) else Pv (i + 1) H3) (behind : ∀ H, Pv m H → Qd H) :
    ∃ W : Nat → Nat → Hp → Prop, (∃ q, W 0 q (upd H1 D (SetW P w D (fun _ => false) 0))) ∧ ∀ i q H, W i q H → (J.stop i H ∧ Qd H) ∨ (J.go i H ∧ ∃ N : Hp → Prop, (∀ G, N G → ∃ q', q' < q ∧ W (i + 1) q' G) ∧ ∀ x G, J.yld i H x G → g x (wipe σ vs) G fun σ2 G2 => wipe σ2 vs = wipe σ vs ∧ tt σ2 G2 fun b G3 =>
      if b = true then te σ2 G3 fun y G4 => ∃ (k : Key) (S : Key → Bool) (n : Nat), y = kV k ∧ G4 D = some (SetW P w D S n) ∧ n + 1 < scanBound ∧ N (upd G4 D (SetW P w D (fun j => S j || decide (j = k)) (if S k = true then n else n + 1))) else N G3) := by
  refine ⟨fun i q H => q = m - i ∧ i ≤ m ∧ Pv i H, ⟨m, rfl, Nat.zero_le _, start⟩, ?_⟩
  rintro i q H ⟨rfl, le, p⟩
  have gd := stays i H le p
  rcases Nat.lt_or_eq_of_le le with lt | rfl
  · exact .inr ⟨walk.goes i H lt gd, Pv (i + 1), fun G p' => ⟨m - (i + 1), by omega, rfl, lt, p'⟩, fun x G y => turn i x H G lt p (walk.yields i H x G lt gd y)⟩
  · exact .inl ⟨walk.stops H gd, behind H p⟩
end LayT
namespace LayT
open PySem PySem.Spec PyProof.Rows L2
/-! ### enumerate(a tuple) -/
set_option maxHeartbeats 1000000 in
theorem enum_new1 {v : Value} {o : Obj} {H : Heap → Prop} (B : Begins v o H) : Meets (Builtin.«enumerate.__new__» ⟨[.type "enumerate", v], []⟩) (fun _ R s => H s.heap ∧
    R (.ok (.ret (.ref (s.heap.push o).objs.size))) { s with heap := (s.heap.push o).push { cls := .type "enumerate", data := .fields #[.none, .bool false, .ref s.heap.objs.size, rawInt 0, .none, .none] } }) :=
  .of_wp fun prog w A R s ⟨h1, h2⟩ => by
    have sub0 := sub_enumerate
    have it0 : ∀ {A' : Around} {E : Value → Shared → Prop} {Q : Value → Shared → Prop}, Q (.ref s.heap.objs.size) { s with heap := s.heap.push o } → wpAny (model prog w) A' (pyIter v) Q E s := fun q => B.iter prog w _ _ s _ h1 q
    obtain ⟨hp, gg, dd, tt, oo⟩ := s
    wp_walk using it0
    refine wpAny_stack_any fun st => wpAny_pure ?_
    split
    · rename_i c _ _ _ _ _
      cases (c == Value.type "enumerate") <;> (wp_walk using it0; exact ⟨_, rfl, h2⟩)
    · wp_walk using it0; exact ⟨_, rfl, h2⟩
section
variable {prog : Program} {w : World} {A : Around} {E : Value → Shared → Prop} {s : Shared}
theorem call_enum1 {v : Value} {o : Obj} {H : Heap → Prop} {Q : Value → Shared → Prop} (B : Begins v o H) (h1 : H s.heap)
    (fin : ∀ h', IsEnum h' (s.heap.objs.size + 1) s.heap.objs.size 0 .none → h'.get? s.heap.objs.size = some o → (∀ b u, s.heap.get? b = some u → h'.get? b = some u) → Q (.ref (s.heap.objs.size + 1)) { s with heap := h' }) :
    wpAny (model prog w) A (call (.type "enumerate") [v]) Q E s := by
  refine callType_new F.called_enumerate (by decide) (F.typeCall_enumerate_1 v) (F.newCall_enumerate_1 v) (fun obj => F.args_object_init_2 obj v) F.entry_enumerate_new (enum_new1 B) ⟨h1, ?_⟩
  have z : (s.heap.push o).objs.size = s.heap.objs.size + 1 := Heap.size_push ..
  show _ ∧ _
  rw [z]
  have e1 : IsEnum ((s.heap.push o).push { cls := .type "enumerate", data := .fields #[.none, .bool false, .ref s.heap.objs.size, rawInt 0, .none, .none] }) (s.heap.objs.size + 1) s.heap.objs.size 0 .none := by
    have q := Heap.get?_push_size (s.heap.push o) (o := { cls := .type "enumerate", data := .fields #[.none, .bool false, .ref s.heap.objs.size, rawInt 0, .none, .none] }) rfl
    rw [z] at q
    exact q
  exact ⟨⟨_, e1, rfl⟩, fin _ e1 (Heap.get?_push_of_some _ (Heap.get?_push_size _ B.free)) fun b u x => Heap.get?_push_of_some _ (Heap.get?_push_of_some _ x)⟩
end
def Itet (K : PySem.W.Frag) (a : Addr) : It :=
  ⟨fun i H => ∃ (xs : List V) (x : V), SqT K H a xs ∧ xs[i]? = some x, fun i H v H' => ∃ T x, v = .ref T ∧ H T = none ∧ H' = upd H T (.tup [.int (i : Nat), x]) ∧ ∀ xs, SqT K H a xs → xs[i]? = some x, fun i H => ∃ xs : List V, SqT K H a xs ∧ xs.length = i⟩
theorem turn_enumT {P : Program} {w : World} {K : PySem.W.Frag} {elts : List Expr} {kk : Nat} {tpos : Pos} (a e it : Addr) :
    Turn P w K (.Tuple elts kk tpos) (Itet K a) [e, it] e (fun i h => (∃ old, IsEnum h e it ((i : Nat) : Int) old) ∧ h.IsTupleIter it a i ∧ e ≠ it ∧ a ≠ it ∧ e ≠ a) where
  mem := List.mem_cons_self
  obj := fun i h ⟨⟨old, he⟩, ⟨o, ho, hc, hd⟩, _⟩ b hb => by
    rcases List.mem_cons.mp hb with z | z
    · subst z
      exact ⟨_, he, fun v q => nomatch q⟩
    · rw [List.mem_singleton.mp z]
      exact ⟨o, ho, fun v q => by rw [hd] at q; cases q⟩
  keep := fun i h h' ⟨⟨old, he⟩, ⟨o, ho, r⟩, n⟩ k => ⟨⟨old, k e List.mem_cons_self _ he⟩, ⟨o, k it (List.mem_cons_of_mem _ List.mem_cons_self) o ho, r⟩, n⟩
  item := by
    rintro X rfl rfl rfl hcalm i pins s σ H E I hf ⟨⟨old, he⟩, hit, n1, n2, n3⟩ ⟨xs, x, hq, hx⟩
    obtain ⟨its, rv, pt, hz⟩ := I.tuple hq
    obtain ⟨u, hu, ru⟩ := rv.get hx
    have lte : e < s.heap.objs.size := Heap.lt_size he
    have lti : it < s.heap.objs.size := by obtain ⟨_, q, _⟩ := hit; exact Heap.lt_size q
    have hh : X.A.in1.handled = none := I.ok.hd hcalm
    have hlt : i < its.toArray.size := by rw [List.size_toArray]; exact (List.getElem?_eq_some_iff.mp hu).1
    refine wpAny_pyNext_enum_itemD (Draws.tuple (A := X.A.in1) hh it a n2 its.toArray) he ⟨hit, pt⟩ hlt n1 (by
      intro z
      rcases List.mem_cons.mp z with z | z
      · exact n1 z
      · exact n3 (List.mem_singleton.mp z)) fun y h' tk hy ho hst' hT hsz hk => ?_
    have ey : y = u := by
      have q : its.toArray[i]? = some y := hy
      rw [show its.toArray[i]? = some u by simpa using hu] at q
      exact (Option.some.inj q).symm
    subst ey
    refine ⟨_, rfl, wpAny_letOwnedTupleGo_enum (s := { s with heap := h', toks := tk + 1 }) ho fun h2 he2 sb => ?_⟩
    have hT2 := (sb.2 s.heap.objs.size (Nat.ne_of_gt lte)).trans hT
    have new : ObjOk X.prog X.w (upd H s.heap.objs.size (.tup [.int (i : Nat), x])) h2 s.heap.objs.size (.tup [.int (i : Nat), x]) :=
      ⟨Nat.le_trans (show 2 ≤ 100000 by decide) (by decide), [.int i tk, y], .cons ⟨_, rfl⟩ (.cons ru .nil), ⟨_, hT2, rfl, _, rfl⟩⟩
    have ne2 : ∀ b, b ∉ [e, it] → b ≠ e ∧ b ≠ it := fun b hb => ⟨fun z => hb (by rw [z]; exact List.mem_cons_self), fun z => hb (by rw [z]; exact List.mem_cons_of_mem _ List.mem_cons_self)⟩
    have J := I.turnedNew (t' := tk + 1) (h' := h2) (ch := [e, it]) (fun b ob hb q => (sb.2 b (ne2 b hb).1).trans (hk b ob (ne2 b hb).1 (ne2 b hb).2 q)) hf (Nat.le_refl _) new
    refine ⟨.ref s.heap.objs.size, _, J, rfl, ⟨_, x, rfl, I.hok.fresh (Nat.le_refl _), rfl, fun ys hy2 => by rw [I.tuple_inj hy2 hq]; exact hx⟩, ⟨⟨y, ?_⟩, ?_, n1, n2, n3⟩, fun b hb => ?_⟩
    · rw [show ((i + 1 : Nat) : Int) = (i : Int) + 1 by omega]
      exact he2
    · obtain ⟨o3, ho3, r3⟩ := hst'.1
      exact ⟨o3, (sb.2 it n1.symm).trans ho3, r3⟩
    · have lt2 : b < s.heap.objs.size := by
        rcases List.mem_cons.mp hb with z | z
        · rw [z]; exact lte
        · rw [List.mem_singleton.mp z]; exact lti
      rw [upd_ne (Nat.ne_of_lt lt2)]
      exact (hf b hb).1
  done := by
    rintro X rfl rfl rfl hcalm i pins s σ H E I hf ⟨⟨old, he⟩, hit, n1, n2, n3⟩ ⟨xs, hq, hx⟩
    obtain ⟨its, rv, pt, hz⟩ := I.tuple hq
    have hh : X.A.in1.handled = none := I.ok.hd hcalm
    obtain ⟨f0, f1, f2, f3, f4, f5⟩ := hf it (List.mem_cons_of_mem _ List.mem_cons_self)
    have hl := rv.length
    have ei : its.toArray.size = i := by rw [List.size_toArray, ← hl]; exact hx
    exact wpAny_pyNext_enum_endD (Draws.tuple (A := X.A.in1) hh it a n2 its.toArray) he ⟨by rw [ei]; exact hit, pt⟩ fun h' eb => ⟨rfl, I.turned (t' := s.toks) (fun b o hb q => eb b o hb q) f0 f1 f3 f4 f5⟩
  self := fun A i s Q E ⟨⟨_, he⟩, _⟩ h => wpAny_pyIter_enum he h
def iEnumT (K : PySem.W.Frag) (ta : TA) : TI := fun σ H R => ta σ H fun vs H1 => ∃ a xs, vs = [.ref a] ∧ SqT K H1 a xs ∧ R (Itet K a) H1
theorem pi_enumT {X : Cx} {e : Expr} {ta : TA} {p pos tpos : Pos} {elts : List Expr} {kk : Nat} (hg : Gl X "enumerate") (hm : X.mg "enumerate" = none) (ha : PA X [e] ta) (hs : starEach [e] X.env = [(false, eval e X.env)] := by rfl) :
    PI X (.Tuple elts kk tpos) (.Call (.Name "enumerate" p) [e] [] pos) (iEnumT X.K ta) := by
  refine ⟨fun pins s σ H R I h => ?_⟩
  refine Call_ (ld_blt I hg hm boot_enumerate (PyProof.Rows.callWith_type1 (thn (ha.run pos pins s σ H _ I h) fun us s1 ⟨vs, H1, I1, r1, a, xs, ex, hq, q⟩ => ?_) hs rfl))
  subst ex
  obtain ⟨u, rfl, ru⟩ := vals1 r1
  obtain rfl : u = Value.ref a := ru
  obtain ⟨its, rv, pt, hz⟩ := I1.tuple hq
  refine call_enum1 (begins_tuple a its.toArray) pt fun h' he hit kp => wpAny_pyIter_enum he ?_
  have lta : a < s1.heap.objs.size := pt.lt
  have I2 : Inv X pins σ H1 { s1 with heap := h' } := I1.kept (t' := s1.toks) kp
  refine ⟨s1.heap.objs.size + 1, [s1.heap.objs.size + 1, s1.heap.objs.size], _, _, H1, rfl, I2, turn_enumT a (s1.heap.objs.size + 1) s1.heap.objs.size, ⟨⟨.none, he⟩, ⟨_, hit, rfl, rfl⟩, Nat.succ_ne_self _, Nat.ne_of_lt lta, Nat.ne_of_gt (Nat.lt_succ_of_lt lta)⟩, fun b hb => ?_, q⟩
  have le : s1.heap.objs.size ≤ b := by
    rcases List.mem_cons.mp hb with z | z
    · rw [z]; exact Nat.le_succ _
    · rw [List.mem_singleton.mp z]; exact Nat.le_refl _
  exact I1.fpOk le (I1.hok.fresh le)
theorem walk_enumT {K : PySem.W.Frag} {a : Addr} {xs : List V} : Walk (Itet K a) xs.length (fun H => SqT K H a xs) (YPair (fun i => some (.int (i : Nat))) (fun i => xs[i]?)) :=
  ⟨fun i _ hi q => ⟨xs, xs[i], q, List.getElem?_eq_getElem hi⟩, fun _ q => ⟨xs, q, rfl⟩, fun i H v H' _ q ⟨T, x, h1, h2, h3, h4⟩ => ⟨T, .int (i : Nat), x, h1, h2, h3, rfl, h4 xs q⟩⟩
end LayT
namespace PN
open PySem PySem.Spec PyProof.Rows L2
def top (i : Nat) : Stmt := PySem.Challenge.pw_beatwires_k12_whole_fastest.main.body.getD i (.Pass ⟨0, 0, 0, 0⟩)
abbrev sOrd : Stmt := top 11
abbrev sNum : Stmt := top 3
abbrev sWord : Stmt := top 4
abbrev sInit : Stmt := inClass (top 18) 0
abbrev sRegs : Stmt := inClass (top 18) 1
abbrev sBeat : Stmt := inClass (top 18) 2
abbrev sEq : Stmt := inClass (top 18) 3
abbrev sAreD : Stmt := top 19
abbrev sIsD : Stmt := top 20
abbrev sAreW : Stmt := top 21
abbrev sIsW : Stmt := top 22
abbrev sPInit : Stmt := inClass (top 24) 0
abbrev sBefore : Stmt := inClass (top 24) 1
abbrev sLInit : Stmt := inClass (top 25) 0
abbrev sPut : Stmt := top 26
abbrev sPaths : Stmt := top 27
abbrev sLimits : Stmt := top 28
abbrev sWithin : Stmt := top 29
abbrev sNeed : Stmt := top 32
abbrev sStood : Stmt := top 36
abbrev sWith : Stmt := top 38
abbrev sDraw : Stmt := top 40
abbrev sLPlan : Stmt := top 41
abbrev sLBeat : Stmt := top 42
abbrev sLRing : Stmt := top 43
abbrev sLaw : Stmt := top 45
abbrev sFInit : Stmt := inClass (top 31) 0
abbrev sShows : Stmt := inClass (top 31) 1
abbrev sOneG : Stmt := inClass (top 31) 2
abbrev sIsLong : Stmt := inClass (top 31) 3
abbrev sFEq : Stmt := inClass (top 31) 4
abbrev sIsWalk : Stmt := top 33
abbrev sApart : Stmt := top 34
abbrev sFastest : Stmt := top 35
abbrev sWalkOf : Stmt := top 37
abbrev sRuled : Stmt := top 44
/-! ### lists of values that tell lists of data -/
def Al {α : Type} (R : V → α → Prop) (xs : List V) (ds : List α) : Prop := xs.length = ds.length ∧ ∀ (i : Nat) (x : V) (d : α), xs[i]? = some x → ds[i]? = some d → R x d
section
variable {α : Type} {R S : V → α → Prop} {xs ys : List V} {ds es : List α}
theorem Al.nil : Al R [] [] := ⟨rfl, fun i x d h => by simp at h⟩
theorem Al.mono (h : Al R xs ds) (f : ∀ x d, R x d → S x d) : Al S xs ds := ⟨h.1, fun i x d a b => f x d (h.2 i x d a b)⟩
theorem Al.snoc (h : Al R xs ds) {x : V} {d : α} (r : R x d) : Al R (xs ++ [x]) (ds ++ [d]) := by
  refine ⟨by simp [h.1], fun i y e a b => ?_⟩
  by_cases hi : i < xs.length
  · rw [List.getElem?_append_left hi] at a
    rw [List.getElem?_append_left (by rw [← h.1]; exact hi)] at b
    exact h.2 i y e a b
  · rw [List.getElem?_append_right (by omega)] at a
    rw [List.getElem?_append_right (by rw [← h.1]; omega), ← h.1] at b
    cases q : i - xs.length with
    | zero => rw [q] at a b; simp at a b; subst a; subst b; exact r
    | succ n => rw [q] at a; simp at a
theorem Al.one {x : V} {d : α} (r : R x d) : Al R [x] [d] := Al.snoc Al.nil r
theorem Al.append (h : Al R xs ds) (h' : Al R ys es) : Al R (xs ++ ys) (ds ++ es) := by
  refine ⟨by simp [h.1, h'.1], fun i y e a b => ?_⟩
  by_cases hi : i < xs.length
  · rw [List.getElem?_append_left hi] at a
    rw [List.getElem?_append_left (by rw [← h.1]; exact hi)] at b
    exact h.2 i y e a b
  · rw [List.getElem?_append_right (by omega)] at a
    rw [List.getElem?_append_right (by rw [← h.1]; omega), ← h.1] at b
    exact h'.2 _ y e a b
theorem Al.at (h : Al R xs ds) {i : Nat} {x : V} (a : xs[i]? = some x) : ∃ d, ds[i]? = some d ∧ R x d := by
  have hi := (List.getElem?_eq_some_iff.mp a).1
  rw [h.1] at hi
  exact ⟨ds[i], List.getElem?_eq_getElem hi, h.2 i x _ a (List.getElem?_eq_getElem hi)⟩
theorem Al.at' (h : Al R xs ds) {i : Nat} {d : α} (a : ds[i]? = some d) : ∃ x, xs[i]? = some x ∧ R x d := by
  have hi := (List.getElem?_eq_some_iff.mp a).1
  rw [← h.1] at hi
  exact ⟨xs[i], List.getElem?_eq_getElem hi, h.2 i _ d (List.getElem?_eq_getElem hi) a⟩
theorem Al.split (h : Al R xs ds) {e : α} {es : List α} (q : ds = es ++ [e]) : ∃ ys y, xs = ys ++ [y] ∧ Al R ys es ∧ R y e := by
  subst q
  have hl := h.1
  rcases List.eq_nil_or_concat xs with rfl | ⟨ys, y, rfl⟩
  · simp at hl
  · rw [List.concat_eq_append] at *
    simp at hl
    refine ⟨ys, y, rfl, ⟨hl, fun i x d a b => ?_⟩, ?_⟩
    · have hi := (List.getElem?_eq_some_iff.mp a).1
      refine h.2 i x d (by rw [List.getElem?_append_left hi]; exact a) (by rw [List.getElem?_append_left (by omega)]; exact b)
    · refine h.2 ys.length y e (by simp) (by rw [hl]; simp)
end

/-! ### heaps: new objects -/
/-- tuples stay -/
def Tups (H H' : Hp) : Prop := ∀ b xs, H b = some (.tup xs) → H' b = some (.tup xs)
theorem _root_.L2.Same.tups {H H' : Hp} (s : Same H H') : Tups H H' := fun b xs h => s b _ h
theorem Tups.refl (H : Hp) : Tups H H := fun _ _ h => h
theorem Tups.trans {H H1 H2 : Hp} (a : Tups H H1) (b : Tups H1 H2) : Tups H H2 := fun c xs h => b c xs (a c xs h)
theorem same_upd {H : Hp} {p : Addr} {o : HO} (h : H p = none) : Same H (upd H p o) := fun b x e => by
  rw [upd_ne (ne_of_none e h)]
  exact e
/-- all but c stays -/
def But (c : Addr) (H H' : Hp) : Prop := ∀ b o, b ≠ c → H b = some o → H' b = some o
theorem _root_.L2.Same.but {H H' : Hp} (s : Same H H') (c : Addr) : But c H H' := fun b o _ h => s b o h
theorem But.trans {c : Addr} {H H1 H2 : Hp} (a : But c H H1) (b : But c H1 H2) : But c H H2 := fun d o n h => b d o n (a d o n h)
theorem but_upd {c : Addr} {H : Hp} {o : HO} : But c H (upd H c o) := fun b x n e => by rw [upd_ne n]; exact e
theorem But.same {c : Addr} {H H' : Hp} (s : But c H H') (hc : H c = none) : Same H H' := fun b o e => s b o (fun z => by rw [z, hc] at e; cases e) e
/-- a mutable list at l, changed: what did not know l stays -/
theorem _root_.L2.Same.mut {H H' : Hp} {l : Addr} {o : HO} (s : Same H H') (h : H l = none) : Same H (upd H' l o) := fun b x e => by
  rw [upd_ne (ne_of_none e h)]
  exact s b x e

section
variable {X : Cx}
theorem pgl {x : Str} {v : V} {pos : Pos} (h : ∃ u, X.mg x = some u ∧ RelV v u) (hg : Gl X x := by rfl) (hd : (x == ("__debug__" : Str)) = false := by decide) : PE X (.Name x pos) (tC v) := by
  obtain ⟨u, h1, h2⟩ := h
  exact pe_glob hg h1 h2 hd
end
/-! ### tuples read and made, with what stood before kept -/
theorem sz {n : Nat} (h : n ≤ 100000) : n ≤ sizeLine := Nat.le_trans h (by decide)
theorem szl {n : Nat} (h : n ≤ 100000) : n < sizeLine := Nat.lt_of_le_of_lt h (by decide)
section
variable {K : PySem.W.Frag} {H : Hp} {Q : VK} {a b : Addr} {xs ys : List V}
@[irreducible] def rTup (xs : List V) (H : Hp) (Q : VK) : Prop := xs.length ≤ sizeLine ∧ ∀ p, H p = none → Q (.ref p) (upd H p (.tup xs))
@[irreducible] def rLst (xs : List V) (H : Hp) (Q : VK) : Prop := xs.length ≤ sizeLine ∧ ∀ p, H p = none → Q (.ref p) (upd H p (.lst xs))
theorem rd_tup (hl : xs.length ≤ 100000) (k : ∀ p H', Same H H' → H' p = some (.tup xs) → Q (.ref p) H') : rTup xs H Q := by
  unfold rTup
  exact ⟨sz hl, fun p hp => k p _ (same_upd hp) upd_same⟩
theorem rd_lst (hl : xs.length ≤ 100000) (k : ∀ p H', H p = none → Same H H' → H' p = some (.lst xs) → Q (.ref p) H') : rLst xs H Q := by
  unfold rLst
  exact ⟨sz hl, fun p hp => k p _ hp (same_upd hp) upd_same⟩
theorem rd_t0 (k : ∀ p H', Same H H' → H' p = some (.tup []) → Q (.ref p) H') : rTup [] H Q := rd_tup (by decide) k
theorem rd_t1 {x : V} (k : ∀ p H', Same H H' → H' p = some (.tup [x]) → Q (.ref p) H') : rTup [x] H Q := rd_tup (by show 1 ≤ 100000; decide) k
theorem rd_t2 {x y : V} (k : ∀ p H', Same H H' → H' p = some (.tup [x, y]) → Q (.ref p) H') : rTup [x, y] H Q := rd_tup (by show 2 ≤ 100000; decide) k
theorem rd_t3 {x y z : V} (k : ∀ p H', Same H H' → H' p = some (.tup [x, y, z]) → Q (.ref p) H') : rTup [x, y, z] H Q := rd_tup (by show 3 ≤ 100000; decide) k
theorem rd_t4 {x y z u : V} (k : ∀ p H', Same H H' → H' p = some (.tup [x, y, z, u]) → Q (.ref p) H') : rTup [x, y, z, u] H Q := rd_tup (by show 4 ≤ 100000; decide) k
theorem rd_l0 (k : ∀ p H', H p = none → Same H H' → H' p = some (.lst []) → Q (.ref p) H') : rLst [] H Q := rd_lst (by decide) k
theorem rd_l1 {x : V} (k : ∀ p H', H p = none → Same H H' → H' p = some (.lst [x]) → Q (.ref p) H') : rLst [x] H Q := rd_lst (by show 1 ≤ 100000; decide) k
theorem ptup {X : Cx} {es : List Expr} {t : TA} {x1 : Nat} {pos : Pos} (h : PA X es t) : PE X (.Tuple es x1 pos) (fun σ H Q => t σ H fun xs H1 => rTup xs H1 Q) := by
  unfold rTup
  exact pe_tup h
theorem plst {X : Cx} {es : List Expr} {t : TA} {pos : Pos} (h : PA X es t) : PE X (.List es pos) (fun σ H Q => t σ H fun xs H1 => rLst xs H1 Q) := by
  unfold rLst
  exact pe_lst h
@[irreducible] def rCat (K : PySem.W.Frag) : R2 := rCatA K
@[irreducible] def rSlt (K : PySem.W.Frag) : V → Option Int → Option Int → Hp → VK → Prop := rSlA K
theorem op_cat' {X : Cx} : OpR X (binaryOp .Add) (rCat X.K) := by
  unfold rCat
  exact op_catA
theorem sl_t' {X : Cx} : SlR X (rSlt X.K) := by
  unfold rSlt
  exact sl_tupA
theorem ixT {X : Cx} (K : PySem.W.Frag) (h : X.K = K := by rfl) : IxR X (rIxT K) := h ▸ ix_tup
theorem catT {X : Cx} (K : PySem.W.Frag) (h : X.K = K := by rfl) : OpR X (binaryOp .Add) (rCat K) := h ▸ op_cat'
theorem slT {X : Cx} (K : PySem.W.Frag) (h : X.K = K := by rfl) : SlR X (rSlt K) := h ▸ sl_t'
theorem eqDK {X : Cx} (K : PySem.W.Frag) (hu : X.A.units + 64 < cLine) (h : X.K = K := by rfl) : OpR X (compareOp .Eq) (rEqD K) := h ▸ op_eqD hu
theorem neDK {X : Cx} (K : PySem.W.Frag) (hu : X.A.units + 64 < cLine) (h : X.K = K := by rfl) : OpR X (compareOp .NotEq) (rNeD K) := h ▸ op_neD hu
theorem ixL {X : Cx} (K : PySem.W.Frag) (h : X.K = K := by rfl) : IxR X (rIxL K) := h ▸ ix_list
/-- for a, b in .. -/
theorem pgT2 {X : Cx} (K : PySem.W.Frag) (i j : Nat) {x y : Str} {p1 p2 p3 : Pos} {kk : Nat} (nd : X.N.Nodup) (hc : X.calm = true := by rfl) (hi : X.N[i]? = some x := by rfl) (hj : X.N[j]? = some y := by rfl) (hx : Loc X.env.scope x := by exact .inl rfl) (hy : Loc X.env.scope y := by exact .inl rfl)
    (fx : X.fn x = true ∨ X.env.scope.names.lookup x = some .local := by exact .inr rfl) (fy : X.fn y = true ∨ X.env.scope.names.lookup y = some .local := by exact .inr rfl)
    (hn : (assignEach [.Name x p1, .Name y p2] X.env).length = 2 := by rfl) (hst : (assignEach [.Name x p1, .Name y p2] X.env).findIdx? (·.1) = none := by rfl) (h : X.K = K := by rfl) :
    PG X (.Tuple [.Name x p1, .Name y p2] kk p3) (gTup K 2 (gCons (gName i) (gCons (gName j) gNil))) := h ▸ pg_tup hc (pgs_cons (pg_name nd hi hx fx) (pgs_cons (pg_name nd hj hy fy) pgs_nil)) hn hst
theorem rd_cat (ha : H a = some (.tup xs)) (hb : H b = some (.tup ys)) (hl : xs.length + ys.length ≤ 100000) (k : ∀ p H', Same H H' → H' p = some (.tup (xs ++ ys)) → Q (.ref p) H') : rCat K (.ref a) (.ref b) H Q := by
  unfold rCat
  refine ⟨a, b, xs, ys, rfl, rfl, SqT.of ha, SqT.of hb, sz hl, fun e => ?_, fun _ e => ?_, fun _ _ p hp => k p _ (same_upd hp) upd_same⟩
  · exact k b H (Same.refl H) (by rw [e]; exact hb)
  · exact k a H (Same.refl H) (by rw [e, List.append_nil]; exact ha)
theorem rd_slt {lo hi : Option Int} (ha : H a = some (.tup xs)) (k : ∀ p H', Same H H' → H' p = some (.tup (cutV xs lo hi)) → Q (.ref p) H') : rSlt K (.ref a) lo hi H Q := by
  unfold rSlt
  refine ⟨a, xs, rfl, SqT.of ha, fun e => ?_, fun _ p hp => k p _ (same_upd hp) upd_same⟩
  refine k a H (Same.refl H) ?_
  unfold cutV
  rw [e.1, e.2, List.drop_zero, Nat.sub_zero, List.take_length]
  exact ha
end
structure Dfn (P : Program) (w : World) (K : PySem.W.Frag) (mg : Str → Option Value) (base : Heap) (x : Str) (k : Nat) (ps : List Str) (sp : Sp) (f : Addr) (fd : FuncData) : Prop where
  ok : FnOk P w K mg base CX0 k f fd ps sp
  mgf : mg x = some (.ref f)
  kp : PySem.W.keepIn K (.ref f) = true
  b : Binds K fd ps []
theorem pcl {X : Cx} {x : Str} {k : Nat} {ps : List Str} {sp : Sp} {f : Addr} {fd : FuncData} {e : Expr} {es : List Expr} {t : TA} {p pos : Pos} (D : Dfn X.prog X.w X.K X.mg X.base x k ps sp f fd) (hr : Room k X.A) (ha : PA X (e :: es) t) (hg : Gl X x := by rfl)
    (hdb : (x == ("__debug__" : Str)) = false := by decide) (he : starEach (e :: es) X.env = (false, eval e X.env) :: starEach es X.env := by rfl) (hpl : (backTo pos (starEach es X.env)).any (·.1) = false := by rfl) :
    PE X (.Call (.Name x p) (e :: es) [] pos) (tCall sp [] E0 t) := pe_call D.ok hr hg D.mgf D.kp D.b .nil pass0 ha hdb he hpl

/-- a def of the module that may raise -/
structure DfX (P : Program) (w : World) (K : PySem.W.Frag) (mg : Str → Option Value) (base : Heap) (x : Str) (k : Nat) (ps : List Str) (sp : Sp) (f : Addr) (fd : FuncData) : Prop where
  ok : FnOk P w K mg base (L2.CX P w) k f fd ps sp
  mgf : mg x = some (.ref f)
  kp : PySem.W.keepIn K (.ref f) = true
  b : Binds K fd ps []
theorem pclX {X : Cx} {x : Str} {k : Nat} {ps : List Str} {sp : Sp} {f : Addr} {fd : FuncData} {e : Expr} {es : List Expr} {t : TA} {p pos : Pos} (D : DfX X.prog X.w X.K X.mg X.base x k ps sp f fd) (hr : Room k X.A) (ha : PA X (e :: es) t) (hg : Gl X x := by rfl)
    (hdb : (x == ("__debug__" : Str)) = false := by decide) (he : starEach (e :: es) X.env = (false, eval e X.env) :: starEach es X.env := by rfl) (hpl : (backTo pos (starEach es X.env)).any (·.1) = false := by rfl) :
    PE X (.Call (.Name x p) (e :: es) [] pos) (tCall sp [] E0 t) := pe_call D.ok hr hg D.mgf D.kp D.b .nil passL ha hdb he hpl
def tTupN (t : TA) : TE := fun σ H Q => t σ H fun xs H1 => rTup xs H1 Q
theorem ptupN {X : Cx} {es : List Expr} {t : TA} {x1 : Nat} {pos : Pos} (h : PA X es t) : PE X (.Tuple es x1 pos) (tTupN t) := ptup h
theorem map_at {α : Type} {g : α → V} {l : List α} {i : Nat} {y : V} (h : (l.map g)[i]? = some y) : ∃ x, l[i]? = some x ∧ y = g x := by
  rw [List.getElem?_map] at h
  cases e : l[i]? with
  | none => rw [e] at h; cases h
  | some x => rw [e] at h; exact ⟨x, rfl, (Option.some.inj h).symm⟩
theorem map_take_succ {α β : Type} {g : α → β} {l : List α} {i : Nat} {x : α} (h : l[i]? = some x) : (l.take (i + 1)).map g = (l.take i).map g ++ [g x] := by
  rw [List.take_add_one, h, List.map_append]; rfl
theorem take_succ_at {α : Type} {l : List α} {i : Nat} {x : α} (h : l[i]? = some x) : l.take (i + 1) = l.take i ++ [x] := by
  rw [List.take_add_one, h]; rfl
theorem at0 {x : V} {zs : List V} : atI (x :: zs) 0 = some x := atI_nat (j := 0) (v := x) rfl
theorem at1 {x y : V} {zs : List V} : atI (x :: y :: zs) 1 = some y := atI_nat (j := 1) (v := y) rfl
theorem at2 {x y z : V} {zs : List V} : atI (x :: y :: z :: zs) 2 = some z := atI_nat (j := 2) (v := z) rfl
theorem atI_mid {α : Type} {xs : List α} {i : Int} {j : Nat} {v : α} (e : i = (j : Int)) (h : xs[j]? = some v) : atI xs i = some v := by rw [e]; exact atI_nat h
theorem dec_int (i j : Int) : decide (V.int i = V.int j) = decide (i = j) := by
  by_cases h : i = j
  · rw [decide_eq_true h, decide_eq_true (congrArg V.int h)]
  · rw [decide_eq_false h, decide_eq_false (fun z => h (V.int.inj z))]
end PN
namespace PN
open PySem PySem.Spec PyProof.Rows L2
/-! ### what a thing is: nothing, a truth, a number, a text, a tuple, a list -/
inductive D where
  | non | bl (b : Bool) | int (i : Int) | str (s : Str) | tup (ds : List D) | lst
mutual
def DAt (H : Hp) (v : V) : D → Prop
  | .non => v = .non
  | .bl b => v = .bl b
  | .int i => v = .int i
  | .str s => v = .str s
  | .tup ds => ∃ a xs, v = .ref a ∧ H a = some (.tup xs) ∧ DsAt H xs ds
  | .lst => ∃ a xs, v = .ref a ∧ H a = some (.lst xs)
def DsAt (H : Hp) (xs : List V) : List D → Prop
  | [] => xs = []
  | d :: ds => ∃ x r, xs = x :: r ∧ DAt H x d ∧ DsAt H r ds
end
/-- tuples stay, lists stay lists -/
def Stay (H H' : Hp) : Prop := Tups H H' ∧ ∀ b xs, H b = some (.lst xs) → ∃ ys, H' b = some (.lst ys)
theorem Stay.refl (H : Hp) : Stay H H := ⟨Tups.refl H, fun _ xs e => ⟨xs, e⟩⟩
theorem _root_.L2.Same.stay {H H' : Hp} (s : Same H H') : Stay H H' := ⟨s.tups, fun b xs e => ⟨xs, s _ _ e⟩⟩
theorem Stay.trans {H H1 H2 : Hp} (a : Stay H H1) (b : Stay H1 H2) : Stay H H2 := ⟨a.1.trans b.1, fun c xs e => by
  obtain ⟨ys, e1⟩ := a.2 c xs e
  exact b.2 c ys e1⟩
theorem stay_upd {H : Hp} {c : Addr} {xs ys : List V} (h : H c = some (.lst xs)) : Stay H (upd H c (.lst ys)) := by
  refine ⟨fun b zs e => ?_, fun b zs e => ?_⟩
  · rw [upd_ne (fun z => by rw [z, h] at e; cases e)]; exact e
  · by_cases z : b = c
    · subst z; exact ⟨ys, upd_same⟩
    · exact ⟨zs, by rw [upd_ne z]; exact e⟩
mutual
theorem DAt.stay {H H' : Hp} (s : Stay H H') {v : V} : ∀ {d : D}, DAt H v d → DAt H' v d
  | .non, h => h
  | .bl _, h => h
  | .int _, h => h
  | .str _, h => h
  | .tup ds, h => by
    unfold DAt at h ⊢
    obtain ⟨a, xs, h1, h2, h3⟩ := h
    exact ⟨a, xs, h1, s.1 _ _ h2, DsAt.stay s h3⟩
  | .lst, h => by
    unfold DAt at h ⊢
    obtain ⟨a, xs, h1, h2⟩ := h
    obtain ⟨ys, h3⟩ := s.2 _ _ h2
    exact ⟨a, ys, h1, h3⟩
theorem DsAt.stay {H H' : Hp} (s : Stay H H') {xs : List V} : ∀ {ds : List D}, DsAt H xs ds → DsAt H' xs ds
  | [], h => h
  | d :: ds, h => by
    unfold DsAt at h ⊢
    obtain ⟨x, r, h1, h2, h3⟩ := h
    exact ⟨x, r, h1, DAt.stay s h2, DsAt.stay s h3⟩
end
theorem DAt.same {H H' : Hp} (s : Same H H') {v : V} {d : D} (h : DAt H v d) : DAt H' v d := h.stay s.stay
theorem DsAt.same {H H' : Hp} (s : Same H H') {xs : List V} {ds : List D} (h : DsAt H xs ds) : DsAt H' xs ds := h.stay s.stay
theorem DAt.tup {H : Hp} {v : V} {ds : List D} (h : DAt H v (.tup ds)) : ∃ a xs, v = .ref a ∧ H a = some (.tup xs) ∧ DsAt H xs ds := by unfold DAt at h; exact h
theorem DAt.lst {H : Hp} {v : V} (h : DAt H v .lst) : ∃ a xs, v = .ref a ∧ H a = some (.lst xs) := by unfold DAt at h; exact h
theorem DAt.str {H : Hp} {v : V} {s : Str} (h : DAt H v (.str s)) : v = .str s := by unfold DAt at h; exact h
theorem DAt.int {H : Hp} {v : V} {i : Int} (h : DAt H v (.int i)) : v = .int i := by unfold DAt at h; exact h
theorem DAt.bl {H : Hp} {v : V} {i : Bool} (h : DAt H v (.bl i)) : v = .bl i := by unfold DAt at h; exact h
theorem DAt.non {H : Hp} {v : V} (h : DAt H v .non) : v = .non := by unfold DAt at h; exact h
theorem DsAt.nil {H : Hp} {xs : List V} (h : DsAt H xs []) : xs = [] := by unfold DsAt at h; exact h
theorem DsAt.cons {H : Hp} {xs : List V} {d : D} {ds : List D} (h : DsAt H xs (d :: ds)) : ∃ x r, xs = x :: r ∧ DAt H x d ∧ DsAt H r ds := by unfold DsAt at h; exact h
theorem DsAt.len {H : Hp} : ∀ {ds : List D} {xs : List V}, DsAt H xs ds → xs.length = ds.length
  | [], xs, h => by rw [h.nil]; rfl
  | d :: ds, xs, h => by
    obtain ⟨x, r, rfl, _, h3⟩ := h.cons
    rw [List.length_cons, List.length_cons, h3.len]
theorem DsAt.at {H : Hp} : ∀ {ds : List D} {xs : List V} {i : Nat} {x : V}, DsAt H xs ds → xs[i]? = some x → ∃ d, ds[i]? = some d ∧ DAt H x d
  | [], xs, i, x, h, e => by rw [h.nil] at e; simp at e
  | d :: ds, xs, i, x, h, e => by
    obtain ⟨y, r, rfl, h2, h3⟩ := h.cons
    cases i with
    | zero => cases e; exact ⟨d, rfl, h2⟩
    | succ i => exact DsAt.at (i := i) h3 e
def tyD : D → String
  | .non => "NoneType"
  | .bl _ => "bool"
  | .int _ => "int"
  | .str _ => "str"
  | .tup _ => "tuple"
  | .lst => "list"
theorem tyX {K : PySem.W.Frag} {H : Hp} {v : V} : ∀ {d : D}, DAt H v d → TyX K H v (.type (tyD d))
  | .non, h => by rw [h.non]; exact .base .non
  | .bl b, h => by rw [h.bl]; exact .base (.bl b)
  | .int i, h => by rw [h.int]; exact .base (.int i)
  | .str s, h => by rw [h.str]; exact .base (.str s)
  | .tup _, h => by obtain ⟨a, xs, rfl, e, _⟩ := h.tup; exact .base (.tup e)
  | .lst, h => by obtain ⟨a, xs, rfl, e⟩ := h.lst; exact .base (.lst e)
/-! isinstance of a thing -/
def isInt : D → Bool
  | .non => false
  | .bl _ => true
  | .int _ => true
  | .str _ => false
  | .tup _ => false
  | .lst => false
theorem kisInt {K : PySem.W.Frag} : ∀ d : D, PySem.W.kitOne K (.type (tyD d)) (.type "int") = some (isInt d)
  | .non => kit_ty (show kitB "NoneType" "int" = some false by decide +kernel)
  | .bl _ => kit_ty (show kitB "bool" "int" = some true by decide +kernel)
  | .int _ => kit_ty (show kitB "int" "int" = some true by decide +kernel)
  | .str _ => kit_ty (show kitB "str" "int" = some false by decide +kernel)
  | .tup _ => kit_ty (show kitB "tuple" "int" = some false by decide +kernel)
  | .lst => kit_ty (show kitB "list" "int" = some false by decide +kernel)
def isBool : D → Bool
  | .non => false
  | .bl _ => true
  | .int _ => false
  | .str _ => false
  | .tup _ => false
  | .lst => false
theorem kisBool {K : PySem.W.Frag} : ∀ d : D, PySem.W.kitOne K (.type (tyD d)) (.type "bool") = some (isBool d)
  | .non => kit_ty (show kitB "NoneType" "bool" = some false by decide +kernel)
  | .bl _ => kit_ty (show kitB "bool" "bool" = some true by decide +kernel)
  | .int _ => kit_ty (show kitB "int" "bool" = some false by decide +kernel)
  | .str _ => kit_ty (show kitB "str" "bool" = some false by decide +kernel)
  | .tup _ => kit_ty (show kitB "tuple" "bool" = some false by decide +kernel)
  | .lst => kit_ty (show kitB "list" "bool" = some false by decide +kernel)
def isStr : D → Bool
  | .non => false
  | .bl _ => false
  | .int _ => false
  | .str _ => true
  | .tup _ => false
  | .lst => false
theorem kisStr {K : PySem.W.Frag} : ∀ d : D, PySem.W.kitOne K (.type (tyD d)) (.type "str") = some (isStr d)
  | .non => kit_ty (show kitB "NoneType" "str" = some false by decide +kernel)
  | .bl _ => kit_ty (show kitB "bool" "str" = some false by decide +kernel)
  | .int _ => kit_ty (show kitB "int" "str" = some false by decide +kernel)
  | .str _ => kit_ty (show kitB "str" "str" = some true by decide +kernel)
  | .tup _ => kit_ty (show kitB "tuple" "str" = some false by decide +kernel)
  | .lst => kit_ty (show kitB "list" "str" = some false by decide +kernel)
def isTup : D → Bool
  | .non => false
  | .bl _ => false
  | .int _ => false
  | .str _ => false
  | .tup _ => true
  | .lst => false
theorem kisTup {K : PySem.W.Frag} : ∀ d : D, PySem.W.kitOne K (.type (tyD d)) (.type "tuple") = some (isTup d)
  | .non => kit_ty (show kitB "NoneType" "tuple" = some false by decide +kernel)
  | .bl _ => kit_ty (show kitB "bool" "tuple" = some false by decide +kernel)
  | .int _ => kit_ty (show kitB "int" "tuple" = some false by decide +kernel)
  | .str _ => kit_ty (show kitB "str" "tuple" = some false by decide +kernel)
  | .tup _ => kit_ty (show kitB "tuple" "tuple" = some true by decide +kernel)
  | .lst => kit_ty (show kitB "list" "tuple" = some false by decide +kernel)
/-- names of the top that no def changes -/
structure Txt (K : PySem.W.Frag) (mg : Str → Option Value) : Prop where
  L : ∃ u, mg "LETTERS" = some u ∧ RelV (.str "abcdefghijklmnopqrstuvwxyz") u
  m8 : ∃ u, mg "LONGEST_WORD" = some u ∧ RelV (.int 8) u
  O : ∃ u, mg "OUTSIDE" = some u ∧ RelV (.str "out") u
  mW : ∃ u, mg "MOST_WORDS" = some u ∧ RelV (.int 12) u
  mI : ∃ u, mg "MOST_WIRES" = some u ∧ RelV (.int 40) u
  mD : ∃ u, mg "GREATEST_DELAY" = some u ∧ RelV (.int 1000) u
  mR : ∃ u, mg "MOST_REGISTERS" = some u ∧ RelV (.int 20) u
  isinst : mg "isinstance" = none
  int : mg "int" = none
  bool : mg "bool" = none
  str : mg "str" = none
  tuple : mg "tuple" = none
  dict : mg "dict" = none
  list : mg "list" = none
  len : mg "len" = none
  all : mg "all" = none
  any : mg "any" = none
  min : mg "min" = none
  max : mg "max" = none
  sum : mg "sum" = none
  sorted : mg "sorted" = none
  enumerate : mg "enumerate" = none
  range : mg "range" = none
  reversed : mg "reversed" = none
  zip : mg "zip" = none
section
variable {P : Program} {w : World} {K : PySem.W.Frag} {mg : Str → Option Value} {base : Heap}
/-! ### is_number -/
def isNum : D → Bool
  | .int _ => true
  | _ => false
def spNum : Sp := fun vs H Q _ => ∃ (v : V) (d : D), vs = [v] ∧ DAt H v d ∧ Q (.bl (isNum d)) H
theorem scNum : FnScope ["thing"] ["thing"] (defScope sNum) := ⟨rfl, rfl, rfl, by decide +kernel, rfl, by decide +kernel, by decide +kernel⟩
theorem ok_num {f : Addr} {fd : FuncData} (F : Fun K "is_number" "is_number" sNum f fd) (T : Txt K mg) : FnOk P w K mg base CX0 1 f fd ["thing"] spNum := by
  refine F.ok scNum (fun vs H Q E h => ?_) (fun cdv A outer s H vs Q E hr h => ?_)
  · obtain ⟨v, d, rfl, _⟩ := h
    rfl
  · obtain ⟨v, d, rfl, hd, k⟩ := h
    refine ⟨_, pss_one (ps_ret (pe_and (pe_callB call_isi (by rfl) T.isinst (by decide +kernel) (pa_cons (pv 0) (pa_cons (pe_bltn (v := .ty "int") (by rfl) T.int (by decide +kernel) rfl) pa_nil)))
      (pe_one (pe_not (pe_callB call_isi (by rfl) T.isinst (by decide +kernel) (pa_cons (pv 0) (pa_cons (pe_bltn (v := .ty "bool") (by rfl) T.bool (by decide +kernel) rfl) pa_nil))))))), ?_⟩
    refine ⟨_, rfl, v, .ty "int", _, .type "int", _, rfl, .ty "int", tyX hd, kisInt d, _, rfl, ?_⟩
    cases d with
    | int i => exact iteT ⟨_, rfl, v, .ty "bool", _, .type "bool", _, rfl, .ty "bool", tyX hd, kisBool _, _, rfl, k⟩
    | bl b => exact iteT ⟨_, rfl, v, .ty "bool", _, .type "bool", _, rfl, .ty "bool", tyX hd, kisBool _, _, rfl, k⟩
    | non => exact iteF k
    | str s => exact iteF k
    | tup ds => exact iteF k
    | lst => exact iteF k
end
end PN
namespace PN
open PySem PySem.Spec PyProof.Rows L2
section
variable {P : Program} {w : World} {K : PySem.W.Frag} {mg : Str → Option Value} {base : Heap}
/-! ### is_word -/
abbrev abc : Str := "abcdefghijklmnopqrstuvwxyz"
def isWrd : D → Bool
  | .str x => decide (1 ≤ x.length) && (decide (x.length ≤ 8) && x.cps.toList.all fun c => decide (c ∈ abc.cps.toList))
  | _ => false
/-- texts of a thing are short -/
def shortD : D → Prop
  | .str x => x.length ≤ 100
  | _ => True
def spWrd : Sp := fun vs H Q _ => ∃ (v : V) (d : D), vs = [v] ∧ DAt H v d ∧ shortD d ∧ ∀ H', Same H H' → Q (.bl (isWrd d)) H'
abbrev nWrd : List Str := ["thing", "sign"]
theorem scWrd : FnScope nWrd ["thing"] (defScope sWord) := ⟨rfl, rfl, rfl, by decide +kernel, rfl, by decide +kernel, by decide +kernel⟩
theorem ok_wrd {f : Addr} {fd : FuncData} (F : Fun K "is_word" "is_word" sWord f fd) (T : Txt K mg) : FnOk P w K mg base CX0 1 f fd ["thing"] spWrd := by
  refine F.ok scWrd (fun vs H Q E h => ?_) (fun cdv A outer s H vs Q E hr h => ?_)
  · obtain ⟨x, d, rfl, _⟩ := h
    rfl
  · obtain ⟨v, d, rfl, hd, hsh, k⟩ := h
    have nd := scWrd.nd
    refine ⟨_, pss_one (ps_ret (pe_and (pe_callB call_isi (by rfl) T.isinst (by decide +kernel) (pa_cons (pv 0) (pa_cons (pe_bltn (v := .ty "str") (by rfl) T.str (by decide +kernel) rfl) pa_nil)))
      (pe_and (pe_chain op_le op_le pe_int (pe_callB call_len_str (by rfl) T.len (by decide +kernel) (pa_cons (pv 0) pa_nil)) (pgl T.m8))
      (pe_one (pe_callB (cr_all rfl) (by rfl) T.all (by decide +kernel) (pa_cons
        (pe_lc (own := [("sign", 1)]) (g := gName 1) (by rfl) nd (pi_str (pv 0)) (blkOk_by (N := nWrd) (sc := defScope sWord) (by decide +kernel))
          (fun _ _ _ _ _ => pg_name (i := 1) nd rfl (.inl rfl)) (fun _ _ _ _ _ => pts_nil)
          (fun _ _ _ _ _ => pe_cmpR op_in_sign (pv 1) (pgl T.L) rfl)) pa_nil)))))), ?_⟩
    refine ⟨_, rfl, v, .ty "str", _, .type "str", _, rfl, .ty "str", tyX hd, kisStr d, _, rfl, ?_⟩
    cases d with
    | non => exact iteF (k _ (Same.refl H))
    | bl b => exact iteF (k _ (Same.refl H))
    | int b => exact iteF (k _ (Same.refl H))
    | tup b => exact iteF (k _ (Same.refl H))
    | lst => exact iteF (k _ (Same.refl H))
    | str x =>
    refine iteT ?_
    obtain rfl := hd.str
    have hx : x.length ≤ 100 := hsh
    refine ⟨_, rfl, x, rfl, sz (by omega), _, _, rfl, rfl, _, rfl, ?_⟩
    by_cases h1 : 1 ≤ x.length
    case neg =>
      rw [show isWrd (.str x) = false by show (decide (1 ≤ x.length) && _) = _; rw [decide_eq_false h1]; rfl] at k
      rw [show decide ((1 : Int) ≤ (x.length : Int)) = false by rw [decide_eq_false_iff_not]; omega]
      exact iteF ⟨_, rfl, iteF (k _ (Same.refl H))⟩
    rw [show decide ((1 : Int) ≤ (x.length : Int)) = true by rw [decide_eq_true_eq]; omega]
    refine iteT ⟨_, _, rfl, rfl, _, rfl, ?_⟩
    by_cases h8 : x.length ≤ 8
    case neg =>
      rw [show isWrd (.str x) = false by show (decide (1 ≤ x.length) && (decide (x.length ≤ 8) && _)) = _; rw [decide_eq_false h8, Bool.false_and, Bool.and_false]] at k
      rw [show decide ((x.length : Int) ≤ 8) = false by rw [decide_eq_false_iff_not]; omega]
      exact iteF (k _ (Same.refl H))
    rw [show decide ((x.length : Int) ≤ 8) = true by rw [decide_eq_true_eq]; omega]
    rw [show isWrd (.str x) = x.cps.toList.all (fun c => decide (c ∈ abc.cps.toList)) by show (decide (1 ≤ x.length) && (decide (x.length ≤ 8) && _)) = _; rw [decide_eq_true h1, decide_eq_true h8]; rfl] at k
    refine iteT ?_
    have hsz : x.cps.size ≤ 8 := h8
    refine ⟨_, rfl, x, rfl, fun D nD => lc_it (walk_str (z := x)) (fun j H' => Same H H' ∧ H' D = some (.lst ((x.cps.toList.take j).map fun c => V.bl (decide (c ∈ abc.cps.toList)))))
      ⟨same_upd nD, upd_same⟩ (fun j H' _ hh => True.intro) ?_ ?_⟩
    · rintro j y H' H'' hj ⟨s2, hD⟩ ⟨rfl, c, hc, rfl⟩
      have hc' : x.cps.toList[j]? = some c := by rw [Array.getElem?_toList]; exact hc
      refine ⟨rfl, ?_⟩
      refine ⟨_, rfl, c, abc, rfl, rfl, _, hD, ?_, s2.mut nD, ?_⟩
      · rw [List.length_map, List.length_take]
        exact szl (by omega)
      · rw [upd_same, map_take_succ hc']
    rintro H2 ⟨s2, hD⟩
    refine ⟨D, x.cps.toList.map (fun c => decide (c ∈ abc.cps.toList)), rfl, ?_, ?_⟩
    · rw [List.map_map]
      have : x.cps.toList.take x.cps.size = x.cps.toList := by rw [← Array.length_toList]; exact List.take_length
      rw [this] at hD
      exact SqL.of hD
    rw [List.all_map]
    exact k H2 s2
end
end PN
namespace PN
open PySem PySem.Spec PyProof.Rows L2 LayT
theorem dec_str (i j : Str) : decide (V.str i = V.str j) = decide (i = j) := by
  by_cases h : i = j
  · rw [decide_eq_true h, decide_eq_true (congrArg V.str h)]
  · rw [decide_eq_false h, decide_eq_false (fun z => h (V.str.inj z))]
theorem valV_at {kvs : List (Key × V)} : ∀ {i : Nat} {k : Key} {v : V}, (kvs.map (·.1)).Nodup → kvs[i]? = some (k, v) → valV kvs k = some v := by
  induction kvs with
  | nil => intro i k v _ h; simp at h
  | cons p kvs ih =>
    intro i k v nd h
    rw [List.map_cons, List.nodup_cons] at nd
    cases i with
    | zero => simp at h; subst h; exact valV_pos rfl
    | succ i =>
      have h' : kvs[i]? = some (k, v) := by simpa using h
      have hm : k ∈ kvs.map (·.1) := List.mem_map.mpr ⟨(k, v), List.mem_of_getElem? h', rfl⟩
      rw [valV_neg (fun e => nd.1 (by rw [e]; exact hm))]
      exact ih nd.2 h'
theorem valV_take {kvs : List (Key × V)} : ∀ {i : Nat} {k : Key} {v : V}, (kvs.map (·.1)).Nodup → kvs[i]? = some (k, v) → valV (kvs.take i) k = none := by
  induction kvs with
  | nil => intro i k v _ h; simp at h
  | cons p kvs ih =>
    intro i k v nd h
    rw [List.map_cons, List.nodup_cons] at nd
    cases i with
    | zero => rfl
    | succ i =>
      have h' : kvs[i]? = some (k, v) := by simpa using h
      have hm : k ∈ kvs.map (·.1) := List.mem_map.mpr ⟨(k, v), List.mem_of_getElem? h', rfl⟩
      rw [List.take_succ_cons, valV_neg (fun e => nd.1 (by rw [e]; exact hm))]
      exact ih nd.2 h'
theorem inr_nodup {xs : List Str} (h : xs.Nodup) : (xs.map (Sum.inr : Str → Key)).Nodup := by
  induction xs with
  | nil => exact List.nodup_nil
  | cons x xs ih =>
    rw [List.nodup_cons] at h
    rw [List.map_cons, List.nodup_cons]
    refine ⟨fun z => ?_, ih h.2⟩
    obtain ⟨y, hy, e⟩ := List.mem_map.mp z
    exact h.1 (by rw [← Sum.inr.inj e]; exact hy)
def tOrI (a b : TI) : TI := fun σ H R => a σ H R ∨ b σ H R
theorem pi_or {X : Cx} {tg e : Expr} {a b : TI} (h1 : PI X tg e a) (h2 : PI X tg e b) : PI X tg e (tOrI a b) := ⟨fun pins s σ H R I h => h.elim (h1.run pins s σ H R I) (h2.run pins s σ H R I)⟩
def tOrE (a b : TE) : TE := fun σ H Q => a σ H Q ∨ b σ H Q
theorem pe_or2 {X : Cx} {e : Expr} {a b : TE} (h1 : PE X e a) (h2 : PE X e b) : PE X e (tOrE a b) := ⟨fun pins s σ H Q I h => h.elim (h1.run pins s σ H Q I) (h2.run pins s σ H Q I)⟩
/-- a dict that is locked and let go stays -/
theorem unlock {H H2 : Hp} {d : Addr} {o : Obj} {u : HO} (hd : H d = some u) (s2 : Same (upd H d (.frz o u)) H2) : Same H (upd H2 d u) := fun b x e => by
  by_cases hb : b = d
  · subst hb
    rw [upd_same, ← e, hd]
  · rw [upd_ne hb]
    refine s2 _ _ ?_
    rw [upd_ne hb]; exact e
theorem lock_tups {H : Hp} {d : Addr} {o : Obj} {kvs : List (Key × V)} (hd : H d = some (.dK kvs)) : Stay H (upd H d (.frz o (.dK kvs))) := by
  refine ⟨fun b ys e => ?_, fun b ys e => ?_⟩
  · rw [upd_ne (fun z => by rw [z, hd] at e; cases e)]; exact e
  · exact ⟨ys, by rw [upd_ne (fun z => by rw [z, hd] at e; cases e)]; exact e⟩
/-! ### is_delay, are_delays -/
def topD (g : Str) : Int := if g = "out" then 0 else 1000
def isDel (g : Str) : D → Bool
  | .int i => decide (0 ≤ i) && decide (i ≤ topD g)
  | _ => false
def DelAt (H : Hp) (v : V) : Option (List (Str × D)) → Prop
  | none => v = .non
  | some dl => ∃ a kvs, v = .ref a ∧ H a = some (.dK kvs) ∧ kvs.map (·.1) = dl.map (fun p => (Sum.inr p.1 : Key)) ∧ DsAt H (kvs.map (·.2)) (dl.map (·.2))
def areDel : Option (List (Str × D)) → Bool
  | none => false
  | some dl => decide (1 ≤ dl.length) && (decide (dl.length ≤ 12) && dl.all fun p => isWrd (.str p.1) && isDel p.1 p.2)
def okDel : Option (List (Str × D)) → Prop
  | none => True
  | some dl => (dl.map (·.1)).Nodup ∧ dl.length ≤ 1000 ∧ ∀ p ∈ dl, p.1.length ≤ 100
theorem kd_at {H : Hp} {kvs : List (Key × V)} {dl : List (Str × D)} (h1 : kvs.map (·.1) = dl.map (fun p => (Sum.inr p.1 : Key))) (h2 : DsAt H (kvs.map (·.2)) (dl.map (·.2))) {i : Nat} {k : Key} {v : V} (h : kvs[i]? = some (k, v)) :
    ∃ g d, dl[i]? = some (g, d) ∧ k = Sum.inr g ∧ DAt H v d := by
  have e1 : (kvs.map (·.1))[i]? = some k := by rw [List.getElem?_map, h]; rfl
  rw [h1, List.getElem?_map] at e1
  obtain ⟨⟨g, d0⟩, hg, rfl⟩ := Option.map_eq_some_iff.mp e1
  have e2 : (kvs.map (·.2))[i]? = some v := by rw [List.getElem?_map, h]; rfl
  obtain ⟨d, hd, hv⟩ := h2.at e2
  rw [List.getElem?_map, hg] at hd
  cases hd
  exact ⟨g, d0, hg, rfl, hv⟩
section
variable {P : Program} {w : World} {K : PySem.W.Frag} {mg : Str → Option Value} {base : Heap}
def spIsD : Sp := fun vs H Q _ => ∃ (g : Str) (v : V) (d : D), vs = [.str g, v] ∧ DAt H v d ∧ Q (.bl (isDel g d)) H
theorem scIsD : FnScope ["gate", "thing"] ["gate", "thing"] (defScope sIsD) := ⟨rfl, rfl, rfl, by decide +kernel, rfl, by decide +kernel, by decide +kernel⟩
theorem ok_isD {f fN : Addr} {fd fdN : FuncData} (F : Fun K "is_delay" "is_delay" sIsD f fd) (T : Txt K mg) (DN : Dfn P w K mg base "is_number" 1 ["thing"] spNum fN fdN) : FnOk P w K mg base CX0 2 f fd ["gate", "thing"] spIsD := by
  refine F.ok scIsD (fun vs H Q E h => ?_) (fun cdv A outer s H vs Q E hr h => ?_)
  · obtain ⟨g, v, d, rfl, _⟩ := h
    rfl
  · obtain ⟨g, v, d, rfl, hd, k⟩ := h
    refine ⟨_, pss_one (ps_ret (pe_and (pcl DN hr (pa_cons (pv 1) pa_nil)) (pe_one (pe_chain op_le op_le pe_int (pv 1) (pe_ifExp (pt_cmpR op_eq (pv 0) (pgl T.O) (nomark _)) pe_int (pgl T.mD)))))), ?_⟩
    refine ⟨_, rfl, v, d, rfl, hd, ?_⟩
    cases d with
    | non => exact ⟨_, rfl, iteF k⟩
    | bl b => exact ⟨_, rfl, iteF k⟩
    | str b => exact ⟨_, rfl, iteF k⟩
    | tup b => exact ⟨_, rfl, iteF k⟩
    | lst => exact ⟨_, rfl, iteF k⟩
    | int i =>
    refine ⟨_, rfl, iteT ?_⟩
    obtain rfl := hd.int
    refine ⟨_, rfl, _, _, rfl, rfl, _, rfl, ?_⟩
    by_cases h0 : 0 ≤ i
    case neg =>
      rw [show isDel g (.int i) = false by show (decide (0 ≤ i) && _) = _; rw [decide_eq_false h0]; rfl] at k
      rw [decide_eq_false h0]
      exact iteF k
    rw [show isDel g (.int i) = decide (i ≤ topD g) by show (decide (0 ≤ i) && _) = _; rw [decide_eq_true h0]; rfl] at k
    rw [decide_eq_true h0]
    refine iteT ⟨_, rfl, rfl, _, rfl, ?_⟩
    rw [dec_str]
    unfold topD at k
    by_cases hg : g = "out"
    · rw [decide_eq_true hg]
      rw [if_pos hg] at k
      exact iteT ⟨_, _, rfl, rfl, k⟩
    · rw [decide_eq_false hg]
      rw [if_neg hg] at k
      exact iteF ⟨_, _, rfl, rfl, k⟩
def spAreD : Sp := fun vs H Q _ => ∃ (v : V) (x : Option (List (Str × D))), vs = [v] ∧ DelAt H v x ∧ okDel x ∧ ∀ H', Same H H' → Q (.bl (areDel x)) H'
abbrev nAreD : List Str := ["thing", "gate"]
theorem scAreD : FnScope nAreD ["thing"] (defScope sAreD) := ⟨rfl, rfl, rfl, by decide +kernel, rfl, by decide +kernel, by decide +kernel⟩
theorem ok_areD {f fW fI : Addr} {fd fdW fdI : FuncData} (F : Fun K "are_delays" "are_delays" sAreD f fd) (T : Txt K mg) (DW : Dfn P w K mg base "is_word" 1 ["thing"] spWrd fW fdW) (DI : Dfn P w K mg base "is_delay" 2 ["gate", "thing"] spIsD fI fdI) : FnOk P w K mg base CX0 3 f fd ["thing"] spAreD := by
  refine F.ok scAreD (fun vs H Q E h => ?_) (fun cdv A outer s H vs Q E hr h => ?_)
  · obtain ⟨v, x, rfl, _⟩ := h
    rfl
  · obtain ⟨v, x, rfl, hx, hok, k⟩ := h
    have nd := scAreD.nd
    have hu := hu_of hr
    have hr1 : Room 1 _ := hr.mono (by decide)
    refine ⟨_, pss_cons (ps_if (PW.pt (pw_or (pt_not (pt_val (pe_callB call_isi (by rfl) T.isinst (by decide +kernel) (pa_cons (pv 0) (pa_cons (pe_bltn (v := .ty "dict") (by rfl) T.dict (by decide +kernel) rfl) pa_nil)))))
        (pw_or1 (pt_not (pt_chain op_le op_le pe_int (pe_callB call_lenD (by rfl) T.len (by decide +kernel) (pa_cons (pv 0) pa_nil)) (pgl T.mW)))))) (pss_one (ps_ret pe_bl)) pss_nil)
      (pss_one (ps_ret (pe_callB (cr_all rfl) (by rfl) T.all (by decide +kernel) (pa_cons (pe_lock
        (pe_lc (own := [("gate", 1)]) (g := gName 1) (by rfl) nd (pi_keys (pv 0)) (blkOk_by (N := nAreD) (sc := defScope sAreD) (by decide +kernel))
          (fun _ _ _ _ _ => pg_name (i := 1) nd rfl (.inl rfl)) (fun _ _ _ _ _ => pts_nil)
          (fun _ _ _ _ _ => pe_and (pcl DW hr1 (pa_cons (pv 1) pa_nil)) (pe_one (pcl DI hr (pa_cons (pv 1) (pa_cons (pe_dget hu (pv 0) (pv 1) (fun _ _ => rfl)) pa_nil))))))) pa_nil)))), ?_⟩
    cases x with
    | none =>
      obtain rfl := (show v = .non from hx)
      exact ⟨_, rfl, .non, .ty "dict", .type "NoneType", .type "dict", false, rfl, .ty "dict", .base .non, kit_ty (by decide +kernel), false, rfl, iteT (k H (Same.refl H))⟩
    | some dl =>
    obtain ⟨d, kvs, rfl, hd, hk1, hk2⟩ := (show ∃ a kvs, v = .ref a ∧ H a = some (.dK kvs) ∧ kvs.map (·.1) = dl.map (fun p => (Sum.inr p.1 : Key)) ∧ DsAt H (kvs.map (·.2)) (dl.map (·.2)) from hx)
    obtain ⟨hnd, hl1, hsh⟩ := hok
    have hlen : kvs.length = dl.length := by
      have := congrArg List.length hk1
      rwa [List.length_map, List.length_map] at this
    have ea : areDel (some dl) = (decide (1 ≤ dl.length) && (decide (dl.length ≤ 12) && dl.all fun p => isWrd (.str p.1) && isDel p.1 p.2)) := rfl
    refine ⟨_, rfl, .ref d, .ty "dict", .type "dict", .type "dict", true, rfl, .ty "dict", .base (.dK hd), kit_ty (by decide +kernel), true, rfl, ?_⟩
    refine iteF ?_
    refine ⟨_, rfl, d, kvs, rfl, hd, _, _, rfl, rfl, _, rfl, ?_⟩
    by_cases c1 : 1 ≤ dl.length
    case neg =>
      rw [decide_eq_false c1, Bool.false_and] at ea
      rw [ea] at k
      rw [decide_eq_false (show ¬ (1 : Int) ≤ (kvs.length : Int) by omega)]
      exact iteF ⟨_, rfl, iteT (k H (Same.refl H))⟩
    rw [decide_eq_true c1, Bool.true_and] at ea
    rw [decide_eq_true (show (1 : Int) ≤ (kvs.length : Int) by omega)]
    refine iteT ⟨_, _, rfl, rfl, _, rfl, ?_⟩
    by_cases c2 : dl.length ≤ 12
    case neg =>
      rw [decide_eq_false c2, Bool.false_and] at ea
      rw [ea] at k
      rw [decide_eq_false (show ¬ (kvs.length : Int) ≤ 12 by omega)]
      exact iteT (k H (Same.refl H))
    rw [decide_eq_true c2, Bool.true_and] at ea
    rw [ea] at k
    rw [decide_eq_true (show (kvs.length : Int) ≤ 12 by omega)]
    refine iteF ?_
    refine ⟨d, _, hd, True.intro, fun od => ⟨_, rfl, d, od, rfl, .inl ⟨kvs, upd_same, fun c nc => ?_⟩⟩⟩
    have hf : upd H d (.frz od (.dK kvs)) d = some (.frz od (.dK kvs)) := upd_same
    have tf := lock_tups (o := od) hd
    have hun : ∀ {H2 : Hp}, Same (upd H d (.frz od (.dK kvs))) H2 → Same H (upd H2 d (.dK kvs)) := fun s2 => unlock hd s2
    generalize upd H d (.frz od (.dK kvs)) = Hf at hf tf hun nc ⊢
    have hk2' := hk2.stay tf
    refine lc_it (walk_keys (d := d) (o := od) (kvs := kvs)) (fun j G => Same Hf G ∧ G c = some (.lst ((dl.take j).map fun p => V.bl (isWrd (.str p.1) && isDel p.1 p.2))))
      ⟨same_upd nc, upd_same⟩ (fun j G _ hh => hh.1 _ _ hf) ?_ ?_
    · rintro j y G G' hj ⟨sG, gc⟩ ⟨rfl, ky, vy, hky, rfl⟩
      obtain ⟨g, dd, hq, rfl, hv⟩ := kd_at hk1 hk2' hky
      have hqm := List.mem_of_getElem? hq
      have knd : (kvs.map (·.1)).Nodup := by
        rw [hk1, show (fun p : Str × D => (Sum.inr p.1 : Key)) = (Sum.inr : Str → Key) ∘ (·.1) from rfl, ← List.map_map]
        exact inr_nodup hnd
      have hl' : ((dl.take j).map fun p => V.bl (isWrd (.str p.1) && isDel p.1 p.2)).length < sizeLine := by
        rw [List.length_map, List.length_take]
        exact szl (by omega)
      refine ⟨rfl, ?_⟩
      refine ⟨_, rfl, .str g, .str g, rfl, rfl, hsh _ hqm, fun G2 s2 => ⟨_, rfl, ?_⟩⟩
      have sG2 := sG.trans s2
      cases e1 : isWrd (.str g) with
      | false =>
        refine iteF ⟨_, s2 _ _ gc, hl', (sG2).mut nc, ?_⟩
        rw [upd_same, map_take_succ hq]
        dsimp only
        rw [e1]; rfl
      | true =>
        refine iteT ?_
        refine ⟨_, rfl, _, rfl, _, rfl, d, vy, rfl, ?_, g, vy, dd, rfl, hv.same sG2, ?_⟩
        · rw [← valV_at knd hky]
          exact .inl ⟨kvs, Sum.inr g, .inr ⟨od, sG2 _ _ hf⟩, rfl, rfl⟩
        refine ⟨_, s2 _ _ gc, hl', (sG2).mut nc, ?_⟩
        rw [upd_same, map_take_succ hq]
        dsimp only
        rw [e1]; rfl
    · rintro G ⟨sG, gc⟩
      rw [hlen, List.take_length] at gc
      have hcd : c ≠ d := fun z => by rw [z, hf] at nc; cases nc
      refine ⟨sG _ _ hf, c, dl.map (fun p => isWrd (.str p.1) && isDel p.1 p.2), rfl, ?_, ?_⟩
      · rw [List.map_map]
        refine SqL.of ?_
        rw [upd_ne hcd]; exact gc
      · rw [List.all_map]
        exact k _ (hun sG)
end
end PN
namespace PN
open PySem PySem.Spec PyProof.Rows L2 LayT
theorem cut_two {x y : V} {zs : List V} : cutV (x :: y :: zs) none (some 2) = [x, y] := by
  unfold cutV
  rw [show (2 : Int) = ((2 : Nat) : Int) from rfl, HT.sIx_nat, HT.sIx_none, Nat.min_eq_left (by simp only [List.length_cons]; omega)]
  rfl
theorem isiK {X : Cx} (K : PySem.W.Frag) (h : X.K = K := by rfl) : CallR X (.builtin "isinstance") (rIsi K) := h ▸ call_isi
def isG (gs : Str → Bool) : D → Bool
  | .str s => gs s
  | _ => false
def isCnt : D → Bool
  | .int i => decide (0 ≤ i) && decide (i ≤ 20)
  | _ => false
def isWire (gs : Str → Bool) : D → Bool
  | .tup [a, b, c] => (isG gs a && isG gs b) && isCnt c
  | _ => false
/-- a dict whose names are those that gs tells -/
def GsAt (H : Hp) (a : Addr) (gs : Str → Bool) : Prop := ∃ kvs, H a = some (.dK kvs) ∧ ∀ x, (valV kvs (Sum.inr x : Key)).isSome = gs x
theorem GsAt.same {H H' : Hp} {a : Addr} {gs : Str → Bool} (h : GsAt H a gs) (s : Same H H') : GsAt H' a gs := by
  obtain ⟨kvs, h1, h2⟩ := h
  exact ⟨kvs, s _ _ h1, h2⟩
section
variable {P : Program} {w : World} {K : PySem.W.Frag} {mg : Str → Option Value} {base : Heap}
def spIsW : Sp := fun vs H Q _ => ∃ (v : V) (a : Addr) (d : D) (gs : Str → Bool), vs = [v, .ref a] ∧ DAt H v d ∧ GsAt H a gs ∧ ∀ H', Same H H' → Q (.bl (isWire gs d)) H'
abbrev nIsW : List Str := ["thing", "gates", "gate"]
theorem scIsW : FnScope nIsW ["thing", "gates"] (defScope sIsW) := ⟨rfl, rfl, rfl, by decide +kernel, rfl, by decide +kernel, by decide +kernel⟩
theorem ok_isW {f fN : Addr} {fd fdN : FuncData} (F : Fun K "is_wire" "is_wire" sIsW f fd) (T : Txt K mg) (DN : Dfn P w K mg base "is_number" 1 ["thing"] spNum fN fdN) : FnOk P w K mg base CX0 2 f fd ["thing", "gates"] spIsW := by
  refine F.ok scIsW (fun vs H Q E h => ?_) (fun cdv A outer s H vs Q E hr h => ?_)
  · obtain ⟨v, a, d, gs, rfl, _⟩ := h
    rfl
  · obtain ⟨v, a, d, gs, rfl, hd, hg, k⟩ := h
    have nd := scIsW.nd
    have hu := hu_of hr
    refine ⟨_, pss_cons (ps_if (PW.pt (pw_or (pt_not (pt_val (pe_callB call_isi (by rfl) T.isinst (by decide +kernel) (pa_cons (pv 0) (pa_cons (pe_bltn (v := .ty "tuple") (by rfl) T.tuple (by decide +kernel) rfl) pa_nil)))))
        (pw_or1 (pt_cmpR op_ne (pe_callB call_len_seq (by rfl) T.len PySem.boot_len (pa_cons (pv 0) pa_nil)) pe_int (nomark _))))) (pss_one (ps_ret pe_bl)) pss_nil)
      (pss_cons (ps_if (pt_not (pt_val (pe_callB (cr_all rfl) (by rfl) T.all (by decide +kernel) (pa_cons
          (pe_lc (own := [("gate", 2)]) (g := gName 2) (by rfl) nd (pi_tup (pe_slice (slT K) (pv 0) po_none (po_some pe_int))) (blkOk_by (N := nIsW) (sc := defScope sIsW) (by decide +kernel))
            (fun _ _ _ _ _ => pg_name (i := 2) nd rfl (.inl rfl)) (fun _ _ _ _ _ => pts_nil)
            (fun _ _ _ _ _ => pe_and (pe_callB (isiK K) (by rfl) T.isinst (by decide +kernel) (pa_cons (pv 2) (pa_cons (pe_bltn (v := .ty "str") (by rfl) T.str (by decide +kernel) rfl) pa_nil))) (pe_one (pe_cmp (pc_din hu (pv 2) (pv 1)) rfl)))) pa_nil)))) (pss_one (ps_ret pe_bl)) pss_nil)
      (pss_one (ps_ret (pe_and (pcl DN hr (pa_cons (pe_ix (ixT K) (pv 0) pe_int (fun _ _ => rfl)) pa_nil)) (pe_one (pe_chain op_le op_le pe_int (pe_ix (ixT K) (pv 0) pe_int (fun _ _ => rfl)) (pgl T.mR))))))), ?_⟩
    refine ⟨_, rfl, v, .ty "tuple", _, .type "tuple", _, rfl, .ty "tuple", tyX hd, kisTup d, _, rfl, ?_⟩
    cases d with
    | non => exact iteT (k _ (Same.refl H))
    | bl b => exact iteT (k _ (Same.refl H))
    | int b => exact iteT (k _ (Same.refl H))
    | str b => exact iteT (k _ (Same.refl H))
    | lst => exact iteT (k _ (Same.refl H))
    | tup ds =>
    refine iteF ?_
    obtain ⟨q, xs, rfl, hq, hds⟩ := hd.tup
    refine ⟨_, rfl, q, xs, rfl, .inr (SqT.of hq), rfl, ?_⟩
    match ds, hds, k with
    | [], hds, k =>
      obtain rfl := hds.nil
      exact ⟨true, rfl, iteT (k _ (Same.refl H))⟩
    | [d1], hds, k =>
      obtain ⟨x, r, rfl, _, hr⟩ := hds.cons
      obtain rfl := hr.nil
      exact ⟨true, rfl, iteT (k _ (Same.refl H))⟩
    | [d1, d2], hds, k =>
      obtain ⟨x, r, rfl, _, hr⟩ := hds.cons
      obtain ⟨y, r2, rfl, _, hr2⟩ := hr.cons
      obtain rfl := hr2.nil
      exact ⟨true, rfl, iteT (k _ (Same.refl H))⟩
    | d1 :: d2 :: d3 :: d4 :: dr, hds, k =>
      have hl := hds.len
      refine ⟨true, ?_, iteT (k _ (Same.refl H))⟩
      rw [hl]
      refine congrArg V.bl ?_
      simp only [List.length_cons]
      have : ¬ ((dr.length + 1 + 1 + 1 + 1 : Nat) : Int) = 3 := by omega
      simp [this]
      omega
    | [d1, d2, d3], hds, k =>
      obtain ⟨x, r, rfl, h1, hr⟩ := hds.cons
      obtain ⟨y, r2, rfl, h2, hr2⟩ := hr.cons
      obtain ⟨z, r3, rfl, h3, hr3⟩ := hr2.cons
      obtain rfl := hr3.nil
      refine ⟨false, rfl, iteF ?_⟩
      obtain ⟨kvs, ha, hgs⟩ := hg
      refine ⟨_, rfl, _, rfl, rd_slt hq fun p H1 s1 hp => ?_⟩
      rw [cut_two] at hp
      refine ⟨p, rfl, ⟨_, SqT.of hp⟩, fun c nc => lc_it (walk_tup (K := K) (a := p) (xs := [x, y])) (fun j G => Same H1 G ∧ G c = some (.lst (([d1, d2].take j).map fun d => V.bl (isG gs d)))) ⟨same_upd nc, upd_same⟩ (fun j G _ hh => SqT.of (hh.1 _ _ hp)) ?_ ?_⟩
      · rintro j u G G' hj ⟨sG, gc⟩ ⟨rfl, eu⟩
        have s1G := s1.trans sG
        obtain ⟨dj, hdj, hu1⟩ : ∃ dj, [d1, d2][j]? = some dj ∧ DAt G' u dj := by
          match j, hj, eu with
          | 0, _, eu => cases eu; exact ⟨d1, rfl, h1.same s1G⟩
          | 1, _, eu => cases eu; exact ⟨d2, rfl, h2.same s1G⟩
        refine ⟨rfl, _, rfl, u, .ty "str", _, .type "str", _, rfl, .ty "str", tyX hu1, kisStr dj, ?_⟩
        have hl' : (([d1, d2].take j).map fun d => V.bl (isG gs d)).length < sizeLine := by
          rw [List.length_map, List.length_take]
          exact szl (by simp only [List.length_cons, List.length_nil]; omega)
        have hfin : ∀ b, b = isG gs dj → ∃ acc, G' c = some (.lst acc) ∧ acc.length < sizeLine ∧ (Same H1 (upd G' c (.lst (acc ++ [V.bl b]))) ∧ upd G' c (.lst (acc ++ [V.bl b])) c = some (.lst (([d1, d2].take (j + 1)).map fun d => V.bl (isG gs d)))) := fun b hb => by
          refine ⟨_, gc, hl', sG.mut nc, ?_⟩
          rw [upd_same, map_take_succ hdj, hb]
        cases dj with
        | non => exact ⟨_, rfl, iteF (hfin _ rfl)⟩
        | bl b => exact ⟨_, rfl, iteF (hfin _ rfl)⟩
        | int b => exact ⟨_, rfl, iteF (hfin _ rfl)⟩
        | tup b => exact ⟨_, rfl, iteF (hfin _ rfl)⟩
        | lst => exact ⟨_, rfl, iteF (hfin _ rfl)⟩
        | str b =>
          obtain rfl := hu1.str
          refine ⟨_, rfl, iteT ?_⟩
          exact ⟨_, rfl, _, rfl, a, _, rfl, DGet.k (k := Sum.inr b) (s1G _ _ ha), hfin _ (hgs b)⟩
      · rintro G ⟨sG, gc⟩
        have s1G := s1.trans sG
        refine ⟨c, [isG gs d1, isG gs d2], rfl, SqL.of gc, ?_⟩
        have ew : isWire gs (.tup [d1, d2, d3]) = ((isG gs d1 && isG gs d2) && isCnt d3) := rfl
        have eb : [isG gs d1, isG gs d2].all id = (isG gs d1 && isG gs d2) := by
          simp
        rw [eb]
        refine ⟨_, rfl, ?_⟩
        cases e1 : (isG gs d1 && isG gs d2) with
        | false =>
          rw [e1, Bool.false_and] at ew
          rw [ew] at k
          exact iteT (k _ s1G)
        | true =>
          rw [e1, Bool.true_and] at ew
          rw [ew] at k
          have hq' := s1G _ _ hq
          refine iteF ⟨_, rfl, q, _, 2, _, rfl, rfl, SqT.of hq', at2, z, d3, rfl, h3.same s1G, ?_⟩
          cases d3 with
          | non => exact ⟨_, rfl, iteF (k _ s1G)⟩
          | bl b => exact ⟨_, rfl, iteF (k _ s1G)⟩
          | str b => exact ⟨_, rfl, iteF (k _ s1G)⟩
          | tup b => exact ⟨_, rfl, iteF (k _ s1G)⟩
          | lst => exact ⟨_, rfl, iteF (k _ s1G)⟩
          | int i =>
          obtain rfl := h3.int
          refine ⟨_, rfl, iteT ⟨_, rfl, q, _, 2, _, rfl, rfl, SqT.of hq', at2, _, _, rfl, rfl, _, rfl, ?_⟩⟩
          have k' := k _ s1G
          have ec : isCnt (.int i) = (decide (0 ≤ i) && decide (i ≤ 20)) := rfl
          rw [ec] at k'
          by_cases c0 : 0 ≤ i
          · rw [decide_eq_true c0] at k' ⊢
            exact iteT ⟨_, _, rfl, rfl, k'⟩
          · rw [decide_eq_false c0] at k' ⊢
            exact iteF k'
/-! ### are_wires -/
def WsAt (H : Hp) (v : V) : Option (List D) → Prop
  | none => v = .non
  | some ds => ∃ a xs, v = .ref a ∧ (H a = some (.lst xs) ∨ H a = some (.tup xs)) ∧ DsAt H xs ds
def areWires (gs : Str → Bool) : Option (List D) → Bool
  | none => false
  | some ds => decide (ds.length ≤ 40) && ds.all (isWire gs)
theorem kitL {K : PySem.W.Frag} : PySem.W.kitAny K (.type "list") [.type "list", .type "tuple"] = some true := kitAny_cons (b := true) (kit_ty (by decide +kernel)) (fun z => nomatch z) (fun _ => rfl)
theorem kitT {K : PySem.W.Frag} : PySem.W.kitAny K (.type "tuple") [.type "list", .type "tuple"] = some true := kitAny_cons (b := false) (kit_ty (by decide +kernel)) (fun _ => kitAny_cons (b := true) (kit_ty (by decide +kernel)) (fun z => nomatch z) (fun _ => rfl)) (fun z => nomatch z)
theorem kitN {K : PySem.W.Frag} : PySem.W.kitAny K (.type "NoneType") [.type "list", .type "tuple"] = some false := kitAny_cons (b := false) (kit_ty (by decide +kernel)) (fun _ => kitAny_cons (b := false) (kit_ty (by decide +kernel)) (fun _ => rfl) (fun z => nomatch z)) (fun z => nomatch z)
def spAreW : Sp := fun vs H Q _ => ∃ (v : V) (a : Addr) (x : Option (List D)) (gs : Str → Bool), vs = [v, .ref a] ∧ WsAt H v x ∧ (∀ ds, x = some ds → ds.length ≤ 1000) ∧ GsAt H a gs ∧ ∀ H', Same H H' → Q (.bl (areWires gs x)) H'
abbrev nAreW : List Str := ["thing", "gates", "wire"]
theorem scAreW : FnScope nAreW ["thing", "gates"] (defScope sAreW) := ⟨rfl, rfl, rfl, by decide +kernel, rfl, by decide +kernel, by decide +kernel⟩
theorem ok_areW {f fI : Addr} {fd fdI : FuncData} (F : Fun K "are_wires" "are_wires" sAreW f fd) (T : Txt K mg) (DI : Dfn P w K mg base "is_wire" 2 ["thing", "gates"] spIsW fI fdI) : FnOk P w K mg base CX0 3 f fd ["thing", "gates"] spAreW := by
  refine F.ok scAreW (fun vs H Q E h => ?_) (fun cdv A outer s H vs Q E hr h => ?_)
  · obtain ⟨v, a, x, gs, rfl, _⟩ := h
    rfl
  · obtain ⟨v, a, x, gs, rfl, hx, hl, hg, k⟩ := h
    have nd := scAreW.nd
    refine ⟨_, pss_cons (ps_if (PW.pt (pw_or (pt_not (pt_val (pe_callB call_isiT (by rfl) T.isinst (by decide +kernel) (pa_cons (pv 0) (pa_cons (ptup (pa_cons (pe_bltn (v := .ty "list") (by rfl) T.list (by decide +kernel) rfl) (pa_cons (pe_bltn (v := .ty "tuple") (by rfl) T.tuple (by decide +kernel) rfl) pa_nil))) pa_nil)))))
        (pw_or1 (pt_cmpR op_gt (pe_callB call_len_seq (by rfl) T.len PySem.boot_len (pa_cons (pv 0) pa_nil)) (pgl T.mI) (nomark _))))) (pss_one (ps_ret pe_bl)) pss_nil)
      (pss_one (ps_ret (pe_callB (cr_all rfl) (by rfl) T.all (by decide +kernel) (pa_cons
          (pe_lc (own := [("wire", 2)]) (g := gName 2) (by rfl) nd (pi_or (pi_list (pv 0)) (pi_tup (pv 0))) (blkOk_by (N := nAreW) (sc := defScope sAreW) (by decide +kernel))
            (fun _ _ _ _ _ => pg_name (i := 2) nd rfl (.inl rfl)) (fun _ _ _ _ _ => pts_nil)
            (fun _ _ _ _ _ => pcl DI hr (pa_cons (pv 2) (pa_cons (pv 1) pa_nil)))) pa_nil)))), ?_⟩
    refine ⟨_, rfl, ?_⟩
    refine rd_t2 fun t H1 s1 ht => ?_
    cases x with
    | none =>
      obtain rfl := (show v = .non from hx)
      exact ⟨.non, t, _, .type "NoneType", _, false, rfl, ht, .cons (.ty "list") (.cons (.ty "tuple") .nil), .base .non, kitN, false, rfl, iteT (k _ s1)⟩
    | some ds =>
    obtain ⟨ca, xs, rfl, hca, hds⟩ := (show ∃ a xs, v = .ref a ∧ (H a = some (.lst xs) ∨ H a = some (.tup xs)) ∧ DsAt H xs ds from hx)
    have hlen := hds.len
    have hl0 := hl ds rfl
    have ea : areWires gs (some ds) = (decide (ds.length ≤ 40) && ds.all (isWire gs)) := rfl
    have hds1 := hds.same s1
    have hg1 := hg.same s1
    have turn : ∀ {j : Nat} {y : V} {c : Addr} {G : Hp}, Same H1 G → H1 c = none → G c = some (.lst ((ds.take j).map fun d => V.bl (isWire gs d))) → xs[j]? = some y → spIsW [y, .ref a] G (fun z G2 => ∃ acc, G2 c = some (.lst acc) ∧ acc.length < sizeLine ∧ (Same H1 (upd G2 c (.lst (acc ++ [z]))) ∧ upd G2 c (.lst (acc ++ [z])) c = some (.lst ((ds.take (j + 1)).map fun d => V.bl (isWire gs d))))) E0 := fun {j y c G} sG nc gc hy => by
      obtain ⟨d, hdj, hyd⟩ := hds1.at hy
      refine ⟨y, a, d, gs, rfl, hyd.same sG, hg1.same sG, fun G2 s2 => ⟨_, s2 _ _ gc, ?_, (sG.trans s2).mut nc, ?_⟩⟩
      · rw [List.length_map, List.length_take]; exact szl (by omega)
      · rw [upd_same, map_take_succ hdj]
    have fin : ∀ {c : Addr} {G : Hp}, Same H1 G → G c = some (.lst ((ds.take xs.length).map fun d => V.bl (isWire gs d))) → ds.length ≤ 40 → ∃ (a : Addr) (bs : List Bool), [V.ref c] = [V.ref a] ∧ SqL K G a (bs.map V.bl) ∧ Q (.bl (bs.all id)) G := fun {c G} sG gc c2 => by
      rw [hlen, List.take_length] at gc
      refine ⟨c, ds.map (isWire gs), rfl, ?_, ?_⟩
      · rw [List.map_map]; exact SqL.of gc
      · rw [List.all_map]
        have := k G (s1.trans sG)
        rw [ea, decide_eq_true c2, Bool.true_and] at this
        exact this
    rcases hca with hca | hca
    · have hca1 := s1 _ _ hca
      refine ⟨.ref ca, t, _, .type "list", _, true, rfl, ht, .cons (.ty "list") (.cons (.ty "tuple") .nil), .base (.lst hca1), kitL, true, rfl, ?_⟩
      refine iteF ⟨_, rfl, ca, xs, rfl, .inl (SqL.of hca1), _, _, rfl, rfl, _, rfl, ?_⟩
      by_cases c2 : ds.length ≤ 40
      case neg =>
        rw [decide_eq_true (show (40 : Int) < (xs.length : Int) by omega)]
        have := k H1 s1
        rw [ea, decide_eq_false c2, Bool.false_and] at this
        exact iteT this
      rw [decide_eq_false (show ¬ (40 : Int) < (xs.length : Int) by omega)]
      refine iteF (.inl ⟨_, rfl, ca, rfl, ⟨_, SqL.of hca1⟩, fun c nc => lc_it (walk_list (K := K) (a := ca) (xs := xs)) (fun j G => Same H1 G ∧ G c = some (.lst ((ds.take j).map fun d => V.bl (isWire gs d))))
        ⟨same_upd nc, upd_same⟩ (fun j G _ hh => SqL.of (hh.1 _ _ hca1)) ?_ ?_⟩)
      · rintro j y G G' hj ⟨sG, gc⟩ ⟨rfl, hy⟩
        exact ⟨rfl, _, rfl, _, rfl, turn sG nc gc hy⟩
      · rintro G ⟨sG, gc⟩
        exact fin sG gc c2
    · have hca1 := s1 _ _ hca
      refine ⟨.ref ca, t, _, .type "tuple", _, true, rfl, ht, .cons (.ty "list") (.cons (.ty "tuple") .nil), .base (.tup hca1), kitT, true, rfl, ?_⟩
      refine iteF ⟨_, rfl, ca, xs, rfl, .inr (SqT.of hca1), _, _, rfl, rfl, _, rfl, ?_⟩
      by_cases c2 : ds.length ≤ 40
      case neg =>
        rw [decide_eq_true (show (40 : Int) < (xs.length : Int) by omega)]
        have := k H1 s1
        rw [ea, decide_eq_false c2, Bool.false_and] at this
        exact iteT this
      rw [decide_eq_false (show ¬ (40 : Int) < (xs.length : Int) by omega)]
      refine iteF (.inr ⟨_, rfl, ca, rfl, ⟨_, SqT.of hca1⟩, fun c nc => lc_it (walk_tup (K := K) (a := ca) (xs := xs)) (fun j G => Same H1 G ∧ G c = some (.lst ((ds.take j).map fun d => V.bl (isWire gs d))))
        ⟨same_upd nc, upd_same⟩ (fun j G _ hh => SqT.of (hh.1 _ _ hca1)) ?_ ?_⟩)
      · rintro j y G G' hj ⟨sG, gc⟩ ⟨rfl, hy⟩
        exact ⟨rfl, _, rfl, _, rfl, turn sG nc gc hy⟩
      · rintro G ⟨sG, gc⟩
        exact fin sG gc c2
end
end PN
namespace PN
open PySem PySem.Spec PyProof.Rows L2 LayT
/-- for a, b, c in .. -/
theorem pgT3 {X : Cx} (K : PySem.W.Frag) (i j l : Nat) {x y z : Str} {p1 p2 p3 p4 : Pos} {kk : Nat} (nd : X.N.Nodup) (hc : X.calm = true := by rfl) (hi : X.N[i]? = some x := by rfl) (hj : X.N[j]? = some y := by rfl) (hl : X.N[l]? = some z := by rfl)
    (hx : Loc X.env.scope x := by exact .inl rfl) (hy : Loc X.env.scope y := by exact .inl rfl) (hz : Loc X.env.scope z := by exact .inl rfl)
    (fx : X.fn x = true ∨ X.env.scope.names.lookup x = some .local := by exact .inr rfl) (fy : X.fn y = true ∨ X.env.scope.names.lookup y = some .local := by exact .inr rfl) (fz : X.fn z = true ∨ X.env.scope.names.lookup z = some .local := by exact .inr rfl)
    (hn : (assignEach [.Name x p1, .Name y p2, .Name z p3] X.env).length = 3 := by rfl) (hst : (assignEach [.Name x p1, .Name y p2, .Name z p3] X.env).findIdx? (·.1) = none := by rfl) (h : X.K = K := by rfl) :
    PG X (.Tuple [.Name x p1, .Name y p2, .Name z p3] kk p4) (gTup K 3 (gCons (gName i) (gCons (gName j) (gCons (gName l) gNil)))) := h ▸ pg_tup hc (pgs_cons (pg_name nd hi hx fx) (pgs_cons (pg_name nd hj hy fy) (pgs_cons (pg_name nd hl hz fz) pgs_nil))) hn hst
/-- for a, (b, c, d) in .. -/
theorem pgN4 {X : Cx} (K : PySem.W.Frag) (m i j l : Nat) {u x y z : Str} {p0 p1 p2 p3 p4 p5 : Pos} {k1 k2 : Nat} (nd : X.N.Nodup) (hc : X.calm = true := by rfl) (hm : X.N[m]? = some u := by rfl) (hi : X.N[i]? = some x := by rfl) (hj : X.N[j]? = some y := by rfl) (hl : X.N[l]? = some z := by rfl)
    (hu : Loc X.env.scope u := by exact .inl rfl) (hx : Loc X.env.scope x := by exact .inl rfl) (hy : Loc X.env.scope y := by exact .inl rfl) (hz : Loc X.env.scope z := by exact .inl rfl)
    (fu : X.fn u = true ∨ X.env.scope.names.lookup u = some .local := by exact .inr rfl) (fx : X.fn x = true ∨ X.env.scope.names.lookup x = some .local := by exact .inr rfl) (fy : X.fn y = true ∨ X.env.scope.names.lookup y = some .local := by exact .inr rfl) (fz : X.fn z = true ∨ X.env.scope.names.lookup z = some .local := by exact .inr rfl)
    (hn : (assignEach [.Name x p1, .Name y p2, .Name z p3] X.env).length = 3 := by rfl) (hst : (assignEach [.Name x p1, .Name y p2, .Name z p3] X.env).findIdx? (·.1) = none := by rfl)
    (hn2 : (assignEach [.Name u p0, .Tuple [.Name x p1, .Name y p2, .Name z p3] k1 p4] X.env).length = 2 := by rfl) (hst2 : (assignEach [.Name u p0, .Tuple [.Name x p1, .Name y p2, .Name z p3] k1 p4] X.env).findIdx? (·.1) = none := by rfl) (h : X.K = K := by rfl) :
    PG X (.Tuple [.Name u p0, .Tuple [.Name x p1, .Name y p2, .Name z p3] k1 p4] k2 p5) (gTup K 2 (gCons (gName m) (gCons (gTup K 3 (gCons (gName i) (gCons (gName j) (gCons (gName l) gNil)))) gNil))) :=
  h ▸ pg_tup hc (pgs_cons (pg_name nd hm hu fu) (pgs_cons (pg_tup hc (pgs_cons (pg_name nd hi hx fx) (pgs_cons (pg_name nd hj hy fy) (pgs_cons (pg_name nd hl hz fz) pgs_nil))) hn hst) pgs_nil)) hn2 hst2
/-! ### plans -/
abbrev W3 : Type := Str × Str × Int
/-- a dict of numbers, at all the names -/
def kN (keys : List Str) (wf : Str → Int) : List (Key × V) := keys.map fun n => ((Sum.inr n : Key), V.int (wf n))
theorem kN_get {keys : List Str} {wf : Str → Int} {n : Str} (h : n ∈ keys) : valV (kN keys wf) (Sum.inr n : Key) = some (.int (wf n)) := by
  induction keys with
  | nil => cases h
  | cons a l ih =>
    show valV (((Sum.inr a : Key), V.int (wf a)) :: kN l wf) _ = _
    by_cases e : a = n
    · subst e
      exact valV_pos (p := ((Sum.inr a : Key), V.int (wf a))) rfl
    · rw [valV_neg (p := ((Sum.inr a : Key), V.int (wf a))) (fun z => e (Sum.inr.inj z))]
      rcases List.mem_cons.mp h with z | z
      · exact absurd z.symm e
      · exact ih z
theorem kN_none {keys : List Str} {wf : Str → Int} {n : Str} (h : n ∉ keys) : valV (kN keys wf) (Sum.inr n : Key) = none := by
  induction keys with
  | nil => rfl
  | cons a l ih =>
    show valV (((Sum.inr a : Key), V.int (wf a)) :: kN l wf) _ = _
    rw [List.mem_cons, not_or] at h
    rw [valV_neg (p := ((Sum.inr a : Key), V.int (wf a))) (fun z => h.1 (Sum.inr.inj z).symm)]
    exact ih h.2
theorem kN_put {keys : List Str} {wf : Str → Int} {n : Str} {v : Int} (h : n ∈ keys) : putK (kN keys wf) (Sum.inr n : Key) (.int v) = kN keys (fun x => if x = n then v else wf x) := by
  unfold putK
  have ha : ((kN keys wf).any fun kv => decide (kv.1 = (Sum.inr n : Key))) = true := by rw [valV_any, kN_get h]; rfl
  rw [if_pos ha]
  unfold kN
  rw [List.map_map]
  apply List.map_congr_left
  intro x _
  show (if (Sum.inr x : Key) = Sum.inr n then ((Sum.inr x : Key), V.int v) else ((Sum.inr x : Key), V.int (wf x))) = _
  by_cases e : x = n
  · subst e; rw [if_pos rfl]; dsimp only; rw [if_pos rfl]
  · rw [if_neg (fun z => e (Sum.inr.inj z))]; dsimp only; rw [if_neg e]
theorem kN_new {keys : List Str} {wf : Str → Int} {n : Str} {v : Int} (h : n ∉ keys) (hv : wf n = v) : putK (kN keys wf) (Sum.inr n : Key) (.int v) = kN (keys ++ [n]) wf := by
  unfold putK
  have ha : ((kN keys wf).any fun kv => decide (kv.1 = (Sum.inr n : Key))) = false := by rw [valV_any, kN_none h]; rfl
  rw [if_neg (by rw [ha]; decide)]
  unfold kN
  rw [List.map_append, ← hv]; rfl
theorem kN_congr {keys : List Str} {wf wf' : Str → Int} (h : ∀ n ∈ keys, wf n = wf' n) : kN keys wf = kN keys wf' := by
  unfold kN
  apply List.map_congr_left
  intro x hx
  rw [h x hx]
theorem kN_len {keys : List Str} {wf : Str → Int} : (kN keys wf).length = keys.length := List.length_map _
structure PL where
  ks : List Str
  d : Str → Int
  ws : List W3
def WAt (H : Hp) (x : V) (q : W3) : Prop := ∃ a, x = .ref a ∧ H a = some (.tup [.str q.1, .str q.2.1, .int q.2.2])
theorem WAt.tups {H H' : Hp} {x : V} {q : W3} (h : WAt H x q) (s : Tups H H') : WAt H' x q := let ⟨a, h1, h2⟩ := h; ⟨a, h1, s _ _ h2⟩
def PlAt (C : Addr) (H : Hp) (p : Addr) (t : PL) : Prop := ∃ dx da wa xs, H p = some (.ins C dx [(("delays" : Str), V.ref da), (("wires" : Str), V.ref wa)]) ∧ H da = some (.dK (kN t.ks t.d)) ∧ H wa = some (.tup xs) ∧ Al (WAt H) xs t.ws
theorem PlAt.same {C : Addr} {H H' : Hp} {p : Addr} {t : PL} (h : PlAt C H p t) (s : Same H H') : PlAt C H' p t := by
  obtain ⟨dx, da, wa, xs, h1, h2, h3, h4⟩ := h
  exact ⟨dx, da, wa, xs, s _ _ h1, s _ _ h2, s _ _ h3, h4.mono fun _ _ z => z.tups s.tups⟩
/-- moves: a dict of numbers -/
def MvAt (H : Hp) (a : Addr) (mv : Str → Int) : Prop := ∃ kvs, H a = some (.dK kvs) ∧ ∀ x, (valV kvs (Sum.inr x : Key) = none ∧ mv x = 0) ∨ valV kvs (Sum.inr x : Key) = some (.int (mv x))
theorem MvAt.same {H H' : Hp} {a : Addr} {mv : Str → Int} (h : MvAt H a mv) (s : Same H H') : MvAt H' a mv := let ⟨kvs, h1, h2⟩ := h; ⟨kvs, s _ _ h1, h2⟩
def regF (mv : Str → Int) (q : W3) : Int := q.2.2 + mv q.2.1 - mv q.1
structure TxtP (K : PySem.W.Frag) (mg : Str → Option Value) (C : Addr) : Prop where
  cl : Cls K C
  nD : NoAttr K C "delays"
  nW : NoAttr K C "wires"
  g : mg "Plan" = some (.ref C)
theorem fld_d {x y : V} : [(("delays" : Str), x), (("wires" : Str), y)].lookup ("delays" : Str) = some x := by
  simp only [List.lookup, show (("delays" : Str) == "delays") = true by decide +kernel]
theorem fld_w {x y : V} : [(("delays" : Str), x), (("wires" : Str), y)].lookup ("wires" : Str) = some y := by
  simp only [List.lookup, show (("wires" : Str) == "delays") = false by decide +kernel, show (("wires" : Str) == "wires") = true by decide +kernel]
section
variable {P : Program} {w : World} {K : PySem.W.Frag} {mg : Str → Option Value} {base : Heap} {C : Addr}
/-! ### Plan.registers -/
def spRegs (C : Addr) : Sp := fun vs H Q _ => ∃ (p m : Addr) (t : PL) (mv : Str → Int), vs = [.ref p, .ref m] ∧ PlAt C H p t ∧ t.ws.length ≤ 1000 ∧ MvAt H m mv ∧ ∀ r H', Same H H' → H r = none → H' r = some (.lst (t.ws.map fun q => V.int (regF mv q))) → Q (.ref r) H'
abbrev nRegs : List Str := ["self", "moves", "begin", "to", "many"]
theorem scRegs : FnScope nRegs ["self", "moves"] (defScope sRegs) := ⟨rfl, rfl, rfl, by decide +kernel, rfl, by decide +kernel, by decide +kernel⟩
theorem mv_get {H : Hp} {a : Addr} {kvs : List (Key × V)} {mv : Str → Int} (h : H a = some (.dK kvs)) (hm : ∀ x, (valV kvs (Sum.inr x : Key) = none ∧ mv x = 0) ∨ valV kvs (Sum.inr x : Key) = some (.int (mv x))) (x : Str) :
    ∃ o, DGet H a (.str x) o ∧ o.getD (.int 0) = .int (mv x) := by
  refine ⟨_, DGet.k (k := Sum.inr x) h, ?_⟩
  rcases hm x with ⟨h1, h2⟩ | h1
  · rw [h1, h2]; rfl
  · rw [h1]; rfl
theorem ok_regs {f : Addr} {fd : FuncData} (F : Fun K "registers" "Plan.registers" sRegs f fd) (TP : TxtP K mg C) : FnOk P w K mg base CX0 1 f fd ["self", "moves"] (spRegs C) := by
  refine F.ok scRegs (fun vs H Q E h => ?_) (fun cdv A outer s H vs Q E hr h => ?_)
  · obtain ⟨p, m, t, mv, rfl, _⟩ := h
    rfl
  · obtain ⟨p, m, t, mv, rfl, hp, hl, ⟨kvs, hm, hmv⟩, k⟩ := h
    have nd := scRegs.nd
    have hu := hu_of hr
    refine ⟨_, pss_one (ps_ret (pe_lc (own := [("begin", 2), ("to", 3), ("many", 4)]) (by rfl) nd (pi_tup (pe_fld (pv 0) rfl)) (blkOk_by (N := nRegs) (sc := defScope sRegs) (by decide +kernel))
      (fun _ _ _ _ _ => pgT3 K 2 3 4 nd) (fun _ _ _ _ _ => pts_nil)
      (fun _ _ _ _ _ => pe_op op_sub (pe_op op_add (pv 4) (pe_dget2 hu (pv 1) (pv 3) pe_int ⟨by rfl, by rfl, by rfl, by rfl⟩)) (pe_dget2 hu (pv 1) (pv 2) pe_int ⟨by rfl, by rfl, by rfl, by rfl⟩)))), ?_⟩
    obtain ⟨dx, da, wa, xs, h1, h2, h3, h4⟩ := hp
    refine ⟨_, rfl, p, C, dx, _, _, rfl, h1, TP.cl, TP.nW, fld_w, wa, rfl, ⟨_, SqT.of h3⟩, fun c nc => lc_it (walk_tup (K := K) (a := wa) (xs := xs)) (fun j G => Same H G ∧ G c = some (.lst ((t.ws.take j).map fun q => V.int (regF mv q)))) ⟨same_upd nc, upd_same⟩ (fun j G _ hh => SqT.of (hh.1 _ _ h3)) ?_ ?_⟩
    · rintro j y G G' hj ⟨sG, gc⟩ ⟨rfl, hy⟩
      obtain ⟨q, hq, a, rfl, ha⟩ := h4.at hy
      obtain ⟨o1, d1, e1⟩ := mv_get (sG _ _ hm) hmv q.2.1
      obtain ⟨o2, d2, e2⟩ := mv_get (sG _ _ hm) hmv q.1
      refine ⟨a, _, rfl, SqT.of (sG _ _ ha), rfl, _, _, rfl, _, _, rfl, _, _, rfl, rfl, rfl, ?_⟩
      refine ⟨_, rfl, _, rfl, m, rfl, .inl ⟨kvs, .inl (sG _ _ hm)⟩, _, rfl, o1, d1, ?_⟩
      rw [e1]
      refine ⟨_, _, rfl, rfl, _, rfl, m, rfl, .inl ⟨kvs, .inl (sG _ _ hm)⟩, _, rfl, o2, d2, ?_⟩
      rw [e2]
      refine ⟨_, _, rfl, rfl, _, gc, ?_, sG.mut nc, ?_⟩
      · rw [List.length_map, List.length_take]; exact szl (by omega)
      · rw [upd_same, map_take_succ hq]; rfl
    · rintro G ⟨sG, gc⟩
      rw [h4.1, List.take_length] at gc
      exact k c G sG nc gc
end
end PN
namespace PN
/-! ### an order in which each one comes behind what it reads -/
section
variable {α : Type} [DecidableEq α]
/-- how many of what n reads are not seen -/
def cnt (keys : List α) (rf : α → List α) (seen : List α) (n : α) : Nat := (keys.filter fun b => decide (b ∈ rf n) && !decide (b ∈ seen)).length
def OrdOk (keys : List α) (rf : α → List α) (o : List α) : Prop :=
  o.Nodup ∧ (∀ x ∈ o, x ∈ keys) ∧ (∀ i n, o[i]? = some n → ∀ b ∈ rf n, b ∈ keys → b ∈ o.take i) ∧ ∀ n ∈ keys, n ∉ o → ∃ b ∈ rf n, b ∈ keys ∧ b ∉ o
theorem filter_drop_one {l : List α} {p : α → Bool} {x : α} (hn : l.Nodup) (hx : x ∈ l) (hp : p x = true) : (l.filter fun b => p b && !decide (b = x)).length + 1 = (l.filter p).length := by
  induction l with
  | nil => cases hx
  | cons a l ih =>
    rw [List.nodup_cons] at hn
    by_cases ha : a = x
    · subst ha
      rw [List.filter_cons_of_neg (by simp), List.filter_cons_of_pos hp, List.length_cons]
      congr 2
      apply List.filter_congr
      intro b hb
      have : b ≠ a := fun z => hn.1 (z ▸ hb)
      simp [this]
    · have hx' : x ∈ l := by
        rcases List.mem_cons.mp hx with h | h
        · exact absurd h.symm ha
        · exact h
      have := ih hn.2 hx'
      cases hpa : p a with
      | true =>
        rw [List.filter_cons_of_pos (by simp [hpa, ha]), List.filter_cons_of_pos hpa, List.length_cons, List.length_cons]
        omega
      | false =>
        rw [List.filter_cons_of_neg (by simp [hpa]), List.filter_cons_of_neg (by simp [hpa])]
        exact this
variable {keys : List α} {rf : α → List α}
theorem cnt_snoc_in {seen : List α} {x n : α} (hk : keys.Nodup) (hx : x ∈ keys) (hs : x ∉ seen) (hr : x ∈ rf n) : cnt keys rf (seen ++ [x]) n + 1 = cnt keys rf seen n := by
  have := filter_drop_one (p := fun b => decide (b ∈ rf n) && !decide (b ∈ seen)) hk hx (by simp [hr, hs])
  unfold cnt
  rw [← this]
  congr 2
  apply List.filter_congr
  intro b hb
  by_cases h1 : b ∈ seen <;> by_cases h2 : b = x <;> simp [h1, h2]
theorem cnt_snoc_out {seen : List α} {x n : α} (hr : x ∉ rf n) : cnt keys rf (seen ++ [x]) n = cnt keys rf seen n := by
  unfold cnt
  congr 1
  apply List.filter_congr
  intro b hb
  by_cases h2 : b = x
  · subst h2; simp [hr]
  · simp [h2]
theorem cnt_zero {seen : List α} {n : α} : cnt keys rf seen n = 0 ↔ ∀ b ∈ rf n, b ∈ keys → b ∈ seen := by
  unfold cnt
  rw [List.length_eq_zero_iff, List.filter_eq_nil_iff]
  constructor
  · intro h b hb hk
    have := h b hk
    simpa [hb] using this
  · intro h b hk
    by_cases hb : b ∈ rf n
    · simp [hb, h b hb hk]
    · simp [hb]
theorem not_in_take {l : List α} (h : l.Nodup) {j : Nat} {n : α} (hj : l[j]? = some n) : n ∉ l.take j := by
  obtain ⟨hl, e⟩ := List.getElem?_eq_some_iff.mp hj
  have h2 : (l.take j ++ l.drop j).Nodup := by rw [List.take_append_drop]; exact h
  intro hm
  exact (List.nodup_append.mp h2).2.2 n hm n (by rw [List.drop_eq_getElem_cons hl, e]; exact List.mem_cons_self) rfl
/-- what stands between the rounds -/
structure OrdI (keys : List α) (rf : α → List α) (at_ : Nat) (wf : α → Int) (ready : List α) : Prop where
  nd : ready.Nodup
  sub : ∀ x ∈ ready, x ∈ keys
  le : at_ ≤ ready.length
  wf_ : ∀ n ∈ keys, wf n = (cnt keys rf (ready.take at_) n : Nat)
  zero : ∀ n ∈ keys, n ∈ ready ↔ cnt keys rf (ready.take at_) n = 0
  back : ∀ i n, ready[i]? = some n → ∀ b ∈ rf n, b ∈ keys → b ∈ ready.take i
/-- .. and within a round -/
structure OrdJ (keys : List α) (rf : α → List α) (at_ : Nat) (ready0 : List α) (freed : List α) (j : Nat) (wf : α → Int) (ready : List α) : Prop where
  wf_ : ∀ n ∈ keys, wf n = (cnt keys rf (ready0.take at_) n : Nat) - (if n ∈ freed.take j then 1 else 0 : Int)
  rd : ready = ready0 ++ (freed.take j).filter fun n => decide (cnt keys rf (ready0.take at_) n = 1)
theorem OrdI.start (hk : keys.Nodup) : OrdI keys rf 0 (fun n => (cnt keys rf [] n : Nat)) (keys.filter fun n => decide (cnt keys rf [] n = 0)) where
  nd := hk.filter _
  sub := fun x h => (List.mem_filter.mp h).1
  le := Nat.zero_le _
  wf_ := fun n _ => by rw [List.take_zero]
  zero := fun n hn => by rw [List.take_zero, List.mem_filter]; simp [hn]
  back := fun i n hi b hb hbk => by
    have h := (List.mem_filter.mp (List.mem_of_getElem? hi)).2
    rw [decide_eq_true_eq] at h
    exact absurd (cnt_zero.mp h b hb hbk) (by simp)
theorem OrdI.enter {at_ : Nat} {wf : α → Int} {ready : List α} (I : OrdI keys rf at_ wf ready) (freed : List α) : OrdJ keys rf at_ ready freed 0 wf ready where
  wf_ := fun n hn => by rw [I.wf_ n hn]; simp
  rd := by simp
theorem OrdJ.step {at_ : Nat} {ready0 freed : List α} {j : Nat} {wf : α → Int} {ready : List α} (J : OrdJ keys rf at_ ready0 freed j wf ready) {n : α} (hf : freed.Nodup) (hj : freed[j]? = some n) (hn : n ∈ keys) :
    wf n = (cnt keys rf (ready0.take at_) n : Nat) ∧ OrdJ keys rf at_ ready0 freed (j + 1) (fun x => if x = n then wf n - 1 else wf x) (if wf n - 1 = 0 then ready ++ [n] else ready) := by
  have et : freed.take (j + 1) = freed.take j ++ [n] := by rw [List.take_add_one, hj]; rfl
  have hnot : n ∉ freed.take j := not_in_take hf hj
  have h0 := J.wf_ n hn
  rw [if_neg hnot] at h0
  refine ⟨by omega, ⟨fun x hx => ?_, ?_⟩⟩
  · rw [et]
    by_cases hx2 : x = n
    · subst hx2
      simp
      omega
    · rw [if_neg hx2, J.wf_ x hx]
      simp [hx2]
  · rw [et, List.filter_append, ← List.append_assoc, ← J.rd]
    by_cases h1 : cnt keys rf (ready0.take at_) n = 1
    · rw [if_pos (by omega)]
      simp [h1]
    · rw [if_neg (by omega)]
      simp [h1]
theorem OrdI.leave {at_ : Nat} {wf wf' : α → Int} {ready ready' : List α} {x : α} (I : OrdI keys rf at_ wf ready) (hk : keys.Nodup) (hx : ready[at_]? = some x) {freed : List α} (hfr : freed = keys.filter fun n => decide (x ∈ rf n)) (J : OrdJ keys rf at_ ready freed freed.length wf' ready') :
    OrdI keys rf (at_ + 1) wf' ready' := by
  have hlt : at_ < ready.length := (List.getElem?_eq_some_iff.mp hx).1
  have hxr : x ∈ ready := List.mem_of_getElem? hx
  have hxk := I.sub x hxr
  have hns : x ∉ ready.take at_ := not_in_take I.nd hx
  have et : ready.take (at_ + 1) = ready.take at_ ++ [x] := by rw [List.take_add_one, hx]; rfl
  have hmf : ∀ n, n ∈ freed ↔ n ∈ keys ∧ x ∈ rf n := fun n => by rw [hfr, List.mem_filter, decide_eq_true_eq]
  have hrd := J.rd
  rw [List.take_length] at hrd
  have etk : ready'.take (at_ + 1) = ready.take at_ ++ [x] := by
    rw [hrd, List.take_append_of_le_length hlt, et]
  have hc : ∀ n, n ∈ keys → (x ∈ rf n → cnt keys rf (ready'.take (at_ + 1)) n + 1 = cnt keys rf (ready.take at_) n) ∧ (x ∉ rf n → cnt keys rf (ready'.take (at_ + 1)) n = cnt keys rf (ready.take at_) n) := fun n hn => by
    rw [etk]
    exact ⟨fun h => cnt_snoc_in hk hxk hns h, fun h => cnt_snoc_out h⟩
  have hnew : ∀ n ∈ freed.filter (fun n => decide (cnt keys rf (ready.take at_) n = 1)), n ∈ keys ∧ x ∈ rf n ∧ cnt keys rf (ready.take at_) n = 1 := fun n h => by
    obtain ⟨h1, h2⟩ := List.mem_filter.mp h
    rw [decide_eq_true_eq] at h2
    exact ⟨((hmf n).mp h1).1, ((hmf n).mp h1).2, h2⟩
  refine ⟨?_, ?_, ?_, ?_, ?_, ?_⟩
  · rw [hrd, List.nodup_append]
    refine ⟨I.nd, ?_, ?_⟩
    · rw [hfr]; exact (hk.filter _).filter _
    · intro a ha b hb e
      subst e
      obtain ⟨h1, _, h3⟩ := hnew a hb
      have := (I.zero a h1).mp ha
      omega
  · intro y hy
    rw [hrd] at hy
    rcases List.mem_append.mp hy with h | h
    · exact I.sub y h
    · exact (hnew y h).1
  · rw [hrd, List.length_append]; omega
  · intro n hn
    rw [J.wf_ n hn, List.take_length]
    obtain ⟨h1, h2⟩ := hc n hn
    by_cases hr : x ∈ rf n
    · rw [if_pos ((hmf n).mpr ⟨hn, hr⟩)]
      have := h1 hr
      omega
    · rw [if_neg (fun z => hr ((hmf n).mp z).2)]
      have := h2 hr
      omega
  · intro n hn
    obtain ⟨h1, h2⟩ := hc n hn
    have hz := I.zero n hn
    constructor
    · intro h
      rw [hrd] at h
      rcases List.mem_append.mp h with h | h
      · have := hz.mp h
        by_cases hr : x ∈ rf n
        · have := h1 hr; omega
        · have := h2 hr; omega
      · obtain ⟨_, hr, h3⟩ := hnew n h
        have := h1 hr
        omega
    · intro h
      rw [hrd]
      by_cases hr : x ∈ rf n
      · refine List.mem_append.mpr (.inr (List.mem_filter.mpr ⟨(hmf n).mpr ⟨hn, hr⟩, ?_⟩))
        have := h1 hr
        rw [decide_eq_true_eq]; omega
      · refine List.mem_append.mpr (.inl (hz.mpr ?_))
        have := h2 hr
        omega
  · intro i n hi b hb hbk
    rw [hrd] at hi ⊢
    by_cases hil : i < ready.length
    · rw [List.getElem?_append_left hil] at hi
      have := I.back i n hi b hb hbk
      rw [List.take_append_of_le_length (Nat.le_of_lt hil)]
      exact this
    · rw [List.getElem?_append_right (by omega)] at hi
      obtain ⟨hn, hr, h3⟩ := hnew n (List.mem_of_getElem? hi)
      have hz : cnt keys rf (ready'.take (at_ + 1)) n = 0 := by
        have := (hc n hn).1 hr
        omega
      have hb2 := cnt_zero.mp hz b hb hbk
      rw [etk, ← et] at hb2
      have hle : ready.take (at_ + 1) <+: ready.take ready.length := by
        rw [List.take_length]; exact List.take_prefix _ _
      rw [List.take_length] at hle
      have hb3 : b ∈ ready := hle.subset hb2
      rw [List.take_append]
      refine List.mem_append.mpr (.inl ?_)
      rw [List.take_of_length_le (by omega)]
      exact hb3
theorem OrdI.fin {at_ : Nat} {wf : α → Int} {ready : List α} (I : OrdI keys rf at_ wf ready) (h : ready.length ≤ at_) : OrdOk keys rf ready := by
  have e : ready.take at_ = ready := List.take_of_length_le h
  refine ⟨I.nd, I.sub, I.back, fun n hn hno => ?_⟩
  have := mt (I.zero n hn).mpr hno
  rw [e] at this
  have h2 := mt cnt_zero.mpr this
  exact Classical.byContradiction fun hh => h2 fun b hb hbk => Classical.byContradiction fun hbo => hh ⟨b, hb, hbk, hbo⟩
theorem OrdI.len {at_ : Nat} {wf : α → Int} {ready : List α} (I : OrdI keys rf at_ wf ready) : ready.length ≤ keys.length := by
  have : ∀ (l m : List α), l.Nodup → (∀ x ∈ l, x ∈ m) → l.length ≤ m.length := by
    intro l
    induction l with
    | nil => intro m _ _; exact Nat.zero_le _
    | cons a l ih =>
      intro m hn hs
      rw [List.nodup_cons] at hn
      have ham := hs a List.mem_cons_self
      have := ih (m.erase a) hn.2 fun x hx => (List.mem_erase_of_ne (fun z => by subst z; exact hn.1 hx)).mpr (hs x (List.mem_cons_of_mem _ hx))
      rw [List.length_erase_of_mem ham] at this
      have hpos : 0 < m.length := List.length_pos_of_mem ham
      rw [List.length_cons]; omega
  exact this _ _ I.nd I.sub
end
end PN
/-! y = {k: v for x in ..}: a dict comprehension given to a name; its walk -/
namespace LayT
open PySem PySem.Spec PyProof.Rows L2
section
variable {X : Cx}
theorem ps_setDc {i : Nat} {y : Str} {py : Pos} {kx vx tg iter : Expr} {ifs : List Expr} {scope : Scope} {own : List (Str × Nat)} {pos spos : Pos} {wi : TI} {g : TG} {tt : TT} {tk tv : TE} (calm : X.calm = true) (nod : X.N.Nodup) (at_ : X.N[i]? = some y) (loc : X.env.scope.names.lookup y = some .local)
    (swaps : swapsWith (.DictComp kx vx [⟨tg, iter, ifs, 0⟩] scope pos) (some (.Name y py)) spos.line X.env = pure true) (src : PI X tg iter wi) (blk : BlkOk X.N X.env.scope scope own)
    (tgt : ∀ (s : Shared) (H : Hp) (C : Addr) (cl : List (Str × Addr)) (fp : List Addr), PG (X.blk s H scope (compEnvC scope cl C X.env) fp) tg g) (tst : ∀ (s : Shared) (H : Hp) (C : Addr) (cl : List (Str × Addr)) (fp : List Addr), PTs (X.blk s H scope (compEnvC scope cl C X.env) fp) ifs tt)
    (key : ∀ (s : Shared) (H : Hp) (C : Addr) (cl : List (Str × Addr)) (fp : List Addr), PE (X.blk s H scope (compEnvC scope cl C X.env) fp) kx tk)
    (val : ∀ (s : Shared) (H : Hp) (C : Addr) (cl : List (Str × Addr)) (fp : List Addr), PE (X.blk s H scope (compEnvC scope cl C X.env) fp) vx tv) (fold : ∀ x, foldedSetIterable iter X.env x = pure x := by intro _; rfl) :
    PS X (.Assign [.Name y py] (.DictComp kx vx [⟨tg, iter, ifs, 0⟩] scope pos) spos) (tAsg (tDc wi g tt tk tv (own.map (·.2))) (gName i)) := by
  refine ⟨fun pins s σ H D I wish => ?_⟩
  rw [exec_Assign_Name_used _ _ _ _ swaps]
  refine wpAny_bind (wpAny_standAt (wpAny_bind ?_))
  show wpAny _ X.A (do let _ ← comprehension (.DictComp kx vx [⟨tg, iter, ifs, 0⟩] scope pos) scope X.env (firstIterPos [⟨tg, iter, ifs, 0⟩] pos) newDict false (eval iter X.env) (some (assign (.Name y py) X.env))) _ _ s
  have wish : tDc wi g tt tk tv (own.map (·.2)) σ H (fun x H1 => gName i x σ H1 D.nx) := wish
  refine wpAny_bind (thn (dc_core (Qf := fun _ s' => SP X pins D .next s') calm nod I src blk tgt tst key val fold wish fun L C s' m H' I' q hn f => ?_) fun _ s' hq => wpAny_pure (wpAny_pure hq))
  show wpAny _ _ (assign (.Name y py) X.env (.ref L)) _ _ _
  refine wpAny_assign_Name (store_ok2 (v := V.ref L) I' nod at_ (.inl loc) rfl (fun s2 I2 ⟨a, sb, ha⟩ => ?_) (.inr loc))
  obtain ⟨f0, f1, f2, f3, f4, f5⟩ := f
  have apart : C ≠ a := by
    rcases ha with z | z
    · rw [z]; exact f1
    · exact fun e => f4 y a z e.symm
  refine ⟨m, hn.sameBut sb apart, fun h3 sb3 => ?_⟩
  exact ⟨_, H', I2.turned (t' := s2.toks) (fun b o hb e => (sb3.2 b hb).trans e) f0 f1 f3 f4 f5, q⟩
theorem sw_trueD {kx vx : Expr} {gs : List Comprehension} {scope : Scope} {pos py : Pos} {y : Str} {l : Nat} {env : Env} (kind : env.scope.kind = .function) (loc : env.scope.names.lookup y = some .local) (line : (py.line == pos.line) = true)
    (own : (scope.names.any fun (n, k) => n == y && (k == .local || k == .cell)) = false) : swapsWith (.DictComp kx vx gs scope pos) (some (.Name y py)) l env = pure true := by
  have ky : env.kindOf y = some .local := loc
  have hb : env.blockKind = .function := by unfold Env.blockKind; rw [kind]; rfl
  unfold swapsWith
  simp only [hb, ky, own, Expr.pos, line]
  rfl
end
/-- a comprehension of a dict over a walk -/
theorem dc_it {J : It} {n : Nat} {G : Hp → Prop} {Y : Nat → Hp → V → Hp → Prop} (wk : Walk J n G Y) {g : TG} {tt : TT} {tk tv : TE} {vs : List Nat} {σ : L2.St} {H1 : Hp} {D : Addr} {Qd : Hp → Prop}
    (Pv : Nat → Hp → Prop) (h0 : Pv 0 (upd H1 D (.dK []))) (hG : ∀ i H, i ≤ n → Pv i H → G H)
    (hs : ∀ i x H H', i < n → Pv i H → Y i H x H' → g x (wipe σ vs) H' fun σ2 H2 => wipe σ2 vs = wipe σ vs ∧ tt σ2 H2 fun b H3 => if b = true then tk σ2 H3 fun y H4 => tv σ2 H4 fun z H5 =>
      ∃ kvs k, y = kV k ∧ H5 D = some (.dK kvs) ∧ kvs.length < sizeLine ∧ Pv (i + 1) (upd H5 D (.dK (putK kvs k z))) else Pv (i + 1) H3)
    (hd : ∀ H, Pv n H → Qd H) : ∃ W : Nat → Nat → Hp → Prop, (∃ m, W 0 m (upd H1 D (.dK []))) ∧ ∀ i m H, W i m H →
      (J.stop i H ∧ Qd H) ∨ (J.go i H ∧ ∃ Nx : Hp → Prop, (∀ H', Nx H' → ∃ m', m' < m ∧ W (i + 1) m' H') ∧ ∀ x H', J.yld i H x H' →
        g x (wipe σ vs) H' fun σ2 H2 => wipe σ2 vs = wipe σ vs ∧ tt σ2 H2 fun b H3 => if b = true then tk σ2 H3 fun y H4 => tv σ2 H4 fun z H5 => ∃ kvs k, y = kV k ∧ H5 D = some (.dK kvs) ∧ kvs.length < sizeLine ∧ Nx (upd H5 D (.dK (putK kvs k z))) else Nx H3) := by
  refine ⟨fun i m H => m = n - i ∧ i ≤ n ∧ Pv i H, ⟨_, rfl, Nat.zero_le _, h0⟩, ?_⟩
  rintro i m H ⟨em, hi, pv⟩
  have gg := hG i H hi pv
  rcases Nat.lt_or_eq_of_le hi with hlt | e
  · refine .inr ⟨wk.goes i H hlt gg, Pv (i + 1), fun H' p' => ⟨n - (i + 1), by omega, rfl, hlt, p'⟩, fun x H' y => ?_⟩
    exact hs i x H H' hlt pv (wk.yields i H x H' hlt gg y)
  · subst e
    exact .inl ⟨wk.stops H gg, hd H pv⟩
end LayT
namespace PN
open PySem PySem.Spec PyProof.Rows L2 LayT
/-! ### dicts of lists of texts -/
/-- read only: what stands at the names -/
def RdAt (H : Hp) (kvs : List (Key × V)) (keys : List Str) (rf : Str → List Str) : Prop := kvs.map (·.1) = keys.map (fun x => (Sum.inr x : Key)) ∧ ∀ (i : Nat) (n : Str) (v : V), keys[i]? = some n → (kvs.map (·.2))[i]? = some v → ∃ l, v = .ref l ∧ H l = some (.lst ((rf n).map V.str))
theorem RdAt.same {H H' : Hp} {kvs : List (Key × V)} {keys : List Str} {rf : Str → List Str} (h : RdAt H kvs keys rf) (s : Same H H') : RdAt H' kvs keys rf := ⟨h.1, fun i n v a b => let ⟨l, e, q⟩ := h.2 i n v a b; ⟨l, e, s _ _ q⟩⟩
theorem RdAt.len {H : Hp} {kvs : List (Key × V)} {keys : List Str} {rf : Str → List Str} (h : RdAt H kvs keys rf) : kvs.length = keys.length := by
  have := congrArg List.length h.1
  rwa [List.length_map, List.length_map] at this
theorem RdAt.row {H : Hp} {kvs : List (Key × V)} {keys : List Str} {rf : Str → List Str} (h : RdAt H kvs keys rf) {i : Nat} {k : Key} {v : V} (e : kvs[i]? = some (k, v)) : ∃ n l, keys[i]? = some n ∧ k = Sum.inr n ∧ v = .ref l ∧ H l = some (.lst ((rf n).map V.str)) := by
  have e1 : (kvs.map (·.1))[i]? = some k := by rw [List.getElem?_map, e]; rfl
  rw [h.1, List.getElem?_map] at e1
  obtain ⟨n, hn, rfl⟩ := Option.map_eq_some_iff.mp e1
  obtain ⟨l, rfl, hl⟩ := h.2 i n v hn (by rw [List.getElem?_map, e]; rfl)
  exact ⟨n, l, hn, rfl, rfl, hl⟩
theorem keys_nd {kvs : List (Key × V)} {keys : List Str} (h : kvs.map (·.1) = keys.map (fun x => (Sum.inr x : Key))) (hk : keys.Nodup) : (kvs.map (·.1)).Nodup := by
  rw [h]; exact inr_nodup hk
theorem valV_some_of {kvs : List (Key × V)} {keys : List Str} (h : kvs.map (·.1) = keys.map (fun x => (Sum.inr x : Key))) (x : Str) : (valV kvs (Sum.inr x : Key)).isSome = decide (x ∈ keys) := by
  rw [← valV_any]
  have : (kvs.any fun kv => decide (kv.1 = (Sum.inr x : Key))) = (kvs.map (·.1)).any (fun k => decide (k = (Sum.inr x : Key))) := by rw [List.any_map]; rfl
  rw [this, h, List.any_map]
  by_cases hx : x ∈ keys
  · rw [decide_eq_true hx, List.any_eq_true]
    exact ⟨x, hx, by simp⟩
  · rw [decide_eq_false hx, List.any_eq_false]
    intro y hy z
    have : (Sum.inr y : Key) = Sum.inr x := by simpa using z
    exact hx (by rw [← Sum.inr.inj this]; exact hy)
/-- the dict of n's lists, which are our own: at ls -/
structure RlAt (H0 G : Hp) (kvs : List (Key × V)) (keys : List Str) (ls : List Addr) (F : Str → List Str) : Prop where
  ek : kvs = (keys.zip ls).map fun p => ((Sum.inr p.1 : Key), V.ref p.2)
  len : ls.length = keys.length
  nd : ls.Nodup
  fr : ∀ l ∈ ls, H0 l = none
  at_ : ∀ (i : Nat) (n : Str) (l : Addr), keys[i]? = some n → ls[i]? = some l → G l = some (.lst ((F n).map V.str))
theorem RlAt.keys_eq {H0 G : Hp} {kvs : List (Key × V)} {keys : List Str} {ls : List Addr} {F : Str → List Str} (h : RlAt H0 G kvs keys ls F) : kvs.map (·.1) = keys.map (fun x => (Sum.inr x : Key)) := by
  rw [h.ek, List.map_map]
  have : ((fun x => x.1) ∘ fun p : Str × Addr => ((Sum.inr p.1 : Key), V.ref p.2)) = (fun x => (Sum.inr x : Key)) ∘ Prod.fst := rfl
  rw [this, ← List.map_map, List.map_fst_zip (by rw [h.len]; exact Nat.le_refl _)]
theorem RlAt.get {H0 G : Hp} {kvs : List (Key × V)} {keys : List Str} {ls : List Addr} {F : Str → List Str} (h : RlAt H0 G kvs keys ls F) (hk : keys.Nodup) {i : Nat} {n : Str} (hi : keys[i]? = some n) : ∃ l, ls[i]? = some l ∧ valV kvs (Sum.inr n : Key) = some (.ref l) ∧ G l = some (.lst ((F n).map V.str)) := by
  have hil : i < ls.length := by rw [h.len]; exact (List.getElem?_eq_some_iff.mp hi).1
  refine ⟨ls[i], List.getElem?_eq_getElem hil, valV_at (i := i) (keys_nd h.keys_eq hk) ?_, h.at_ i n _ hi (List.getElem?_eq_getElem hil)⟩
  have hz : (keys.zip ls)[i]? = some (n, ls[i]) := List.getElem?_zip_eq_some.mpr ⟨hi, List.getElem?_eq_getElem hil⟩
  rw [h.ek, List.getElem?_map, hz]
  rfl
theorem RlAt.keep {H0 G G' : Hp} {kvs : List (Key × V)} {keys : List Str} {ls : List Addr} {F : Str → List Str} (h : RlAt H0 G kvs keys ls F) (s : ∀ l ∈ ls, G' l = G l) : RlAt H0 G' kvs keys ls F :=
  ⟨h.ek, h.len, h.nd, h.fr, fun i n l a b => by rw [s l (List.mem_of_getElem? b)]; exact h.at_ i n l a b⟩
theorem RlAt.same {H0 G G' : Hp} {kvs : List (Key × V)} {keys : List Str} {ls : List Addr} {F : Str → List Str} (h : RlAt H0 G kvs keys ls F) (s : Same G G') : RlAt H0 G' kvs keys ls F :=
  ⟨h.ek, h.len, h.nd, h.fr, fun i n l a b => s _ _ (h.at_ i n l a b)⟩
theorem RlAt.push {H0 G : Hp} {kvs : List (Key × V)} {keys : List Str} {ls : List Addr} {F F' : Str → List Str} (h : RlAt H0 G kvs keys ls F) (hk : keys.Nodup) {i : Nat} {n m : Str} {l : Addr} (hi : keys[i]? = some n) (hl : ls[i]? = some l) (hF : ∀ x ∈ keys, F' x = if x = n then F x ++ [m] else F x) :
    RlAt H0 (upd G l (.lst ((F n).map V.str ++ [.str m]))) kvs keys ls F' := by
  refine ⟨h.ek, h.len, h.nd, h.fr, fun j x l2 hj hl2 => ?_⟩
  rw [hF x (List.mem_of_getElem? hj)]
  by_cases e : l2 = l
  · subst e
    have hij : i = j := by
      have h1 := List.getElem?_eq_some_iff.mp hl
      have h2 := List.getElem?_eq_some_iff.mp hl2
      obtain ⟨a1, b1⟩ := h1
      obtain ⟨a2, b2⟩ := h2
      exact (List.getElem_inj h.nd).mp (b1.trans b2.symm)
    subst hij
    rw [hi] at hj
    cases hj
    rw [if_pos rfl, upd_same, List.map_append]
    rfl
  · have : x ≠ n := fun z => by
      subst z
      have h1 := List.getElem?_eq_some_iff.mp hi
      have h2 := List.getElem?_eq_some_iff.mp hj
      obtain ⟨a1, b1⟩ := h1
      obtain ⟨a2, b2⟩ := h2
      have : i = j := (List.getElem_inj hk).mp (b1.trans b2.symm)
      subst this
      rw [hl] at hl2
      cases hl2
      exact e rfl
    rw [if_neg this, upd_ne e]
    exact h.at_ j x l2 hj hl2
end PN
namespace PN
open PySem PySem.Spec PyProof.Rows L2 LayT
theorem nodup_le {α : Type} [DecidableEq α] : ∀ (l m : List α), l.Nodup → (∀ x ∈ l, x ∈ m) → l.length ≤ m.length := by
  intro l
  induction l with
  | nil => intro m _ _; exact Nat.zero_le _
  | cons a l ih =>
    intro m hn hs
    rw [List.nodup_cons] at hn
    have ham := hs a List.mem_cons_self
    have := ih (m.erase a) hn.2 fun x hx => (List.mem_erase_of_ne (fun z => by subst z; exact hn.1 hx)).mpr (hs x (List.mem_cons_of_mem _ hx))
    rw [List.length_erase_of_mem ham] at this
    have hpos : 0 < m.length := List.length_pos_of_mem ham
    rw [List.length_cons]; omega
theorem cnt_len {keys : List Str} {rf : Str → List Str} {n : Str} {ys : List Str} (hk : keys.Nodup) (hy : ys.Nodup) (hm : ∀ x, x ∈ ys ↔ x ∈ rf n ∧ x ∈ keys) : ys.length = cnt keys rf [] n := by
  unfold cnt
  apply Nat.le_antisymm
  · refine nodup_le _ _ hy fun x hx => ?_
    have := (hm x).mp hx
    rw [List.mem_filter]
    exact ⟨this.2, by simp [this.1]⟩
  · refine nodup_le _ _ (hk.filter _) fun x hx => ?_
    rw [List.mem_filter] at hx
    refine (hm x).mpr ⟨?_, hx.1⟩
    have := hx.2
    simpa using this
theorem RlAt.snoc {H0 G G' : Hp} {kvs : List (Key × V)} {ks : List Str} {ls : List Addr} {F : Str → List Str} (h : RlAt H0 G kvs ks ls F) (s : Same G G') {n : Str} {q : Addr} (hq0 : H0 q = none) (hq : G q = none) (hq' : G' q = some (.lst ((F n).map V.str))) :
    RlAt H0 G' (kvs ++ [((Sum.inr n : Key), V.ref q)]) (ks ++ [n]) (ls ++ [q]) F := by
  have hnl : q ∉ ls := fun z => by
    obtain ⟨i, hi, e⟩ := List.mem_iff_getElem.mp z
    have hik : i < ks.length := by rw [← h.len]; exact hi
    have := h.at_ i ks[i] q (List.getElem?_eq_getElem hik) (by rw [List.getElem?_eq_getElem hi, e])
    rw [hq] at this
    cases this
  refine ⟨?_, by rw [List.length_append, List.length_append, h.len]; rfl, ?_, ?_, ?_⟩
  · rw [h.ek, List.zip_append h.len.symm, List.map_append]; rfl
  · rw [List.nodup_append]
    refine ⟨h.nd, by simp, ?_⟩
    intro a ha b hb e
    rw [List.mem_singleton.mp hb] at e
    exact hnl (e ▸ ha)
  · intro l hl
    rcases List.mem_append.mp hl with z | z
    · exact h.fr l z
    · rw [List.mem_singleton.mp z]; exact hq0
  · intro i x l hi hl
    by_cases hik : i < ks.length
    · rw [List.getElem?_append_left hik] at hi
      rw [List.getElem?_append_left (by rw [h.len]; exact hik)] at hl
      exact s _ _ (h.at_ i x l hi hl)
    · rw [List.getElem?_append_right (by omega)] at hi
      rw [List.getElem?_append_right (by rw [h.len]; omega), h.len] at hl
      cases e : i - ks.length with
      | zero =>
        rw [e] at hi hl
        cases hi; cases hl
        exact hq'
      | succ m => rw [e] at hi; cases hi
theorem RlAt.congr {H0 G : Hp} {kvs : List (Key × V)} {keys : List Str} {ls : List Addr} {F F' : Str → List Str} (h : RlAt H0 G kvs keys ls F) (e : ∀ x ∈ keys, F x = F' x) : RlAt H0 G kvs keys ls F' :=
  ⟨h.ek, h.len, h.nd, h.fr, fun i n l a b => by rw [← e n (List.mem_of_getElem? a)]; exact h.at_ i n l a b⟩
theorem RlAt.base {H0 H1 G : Hp} {kvs : List (Key × V)} {keys : List Str} {ls : List Addr} {F : Str → List Str} (h : RlAt H0 G kvs keys ls F) (e : ∀ l, H0 l = none → H1 l = none) : RlAt H1 G kvs keys ls F :=
  ⟨h.ek, h.len, h.nd, fun l hl => e l (h.fr l hl), h.at_⟩
theorem none_back2 {H H' : Hp} {p : Addr} (s : Same H H') (h : H' p = none) : H p = none := by
  cases e : H p with
  | none => rfl
  | some o => rw [s _ _ e] at h; cases h
theorem RlAt.isL {H0 G : Hp} {kvs : List (Key × V)} {keys : List Str} {ls : List Addr} {F : Str → List Str} (h : RlAt H0 G kvs keys ls F) : ∀ l ∈ ls, ∃ xs, G l = some (.lst xs) := fun l hl => by
  obtain ⟨i, hi, e⟩ := List.mem_iff_getElem.mp hl
  have hik : i < keys.length := by rw [← h.len]; exact hi
  exact ⟨_, h.at_ i keys[i] l (List.getElem?_eq_getElem hik) (by rw [List.getElem?_eq_getElem hi, e])⟩
theorem RlAt.updK {H0 G : Hp} {kvs : List (Key × V)} {keys : List Str} {ls : List Addr} {F : Str → List Str} {c : Addr} {o : HO} {kk : List (Key × V)} (h : RlAt H0 G kvs keys ls F) (hc : G c = some (.dK kk)) : RlAt H0 (upd G c o) kvs keys ls F :=
  h.keep fun l hl => upd_ne (fun z => by obtain ⟨xs, e⟩ := h.isL l hl; rw [z, hc] at e; cases e)
theorem RlAt.updF {H0 G : Hp} {kvs : List (Key × V)} {keys : List Str} {ls : List Addr} {F : Str → List Str} {c : Addr} {o : HO} {u : Obj} {k2 : HO} (h : RlAt H0 G kvs keys ls F) (hc : G c = some (.frz u k2)) : RlAt H0 (upd G c o) kvs keys ls F :=
  h.keep fun l hl => upd_ne (fun z => by obtain ⟨xs, e⟩ := h.isL l hl; rw [z, hc] at e; cases e)
theorem no_key {kvs : List (Key × V)} {keys : List Str} (h : kvs.map (·.1) = keys.map (fun x => (Sum.inr x : Key))) {n : Str} (hn : n ∉ keys) : valV kvs (Sum.inr n : Key) = none := by
  have := valV_some_of h n
  rw [decide_eq_false hn] at this
  cases e : valV kvs (Sum.inr n : Key) with
  | none => rfl
  | some v => rw [e] at this; cases this
theorem nodup_take_not {l : List Str} (h : l.Nodup) {j : Nat} {n : Str} (hj : l[j]? = some n) : n ∉ l.take j := not_in_take h hj
section
variable {P : Program} {w : World} {K : PySem.W.Frag} {mg : Str → Option Value} {base : Heap}
def spOrd : Sp := fun vs H Q _ => ∃ (a : Addr) (kvs : List (Key × V)) (keys : List Str) (rf : Str → List Str), vs = [.ref a] ∧ H a = some (.dK kvs) ∧ RdAt H kvs keys rf ∧ keys.Nodup ∧ keys.length ≤ 60 ∧ (∀ n ∈ keys, (rf n).length ≤ 60) ∧
  ∀ r H' o, Same H H' → H r = none → H' r = some (.lst (o.map V.str)) → OrdOk keys rf o → Q (.ref r) H'
abbrev nOrd : List Str := ["reads", "readers", "waits", "ready", "name", "read", "other", "at", "freed"]
theorem scOrd : FnScope nOrd ["reads"] (defScope sOrd) := ⟨rfl, rfl, rfl, by decide +kernel, rfl, by decide +kernel, by decide +kernel⟩
theorem ok_ord {f : Addr} {fd : FuncData} (F : Fun K "order_of" "order_of" sOrd f fd) (T : Txt K mg) : FnOk P w K mg base CX0 1 f fd ["reads"] spOrd := by
  refine F.ok scOrd (fun vs H Q E h => ?_) (fun cdv A outer s H vs Q E hr h => ?_)
  · obtain ⟨a, kvs, keys, rf, rfl, _⟩ := h
    rfl
  obtain ⟨a, kvs, keys, rf, rfl, ha, hrd, hk, hkl, hrl, k⟩ := h
  have nd := scOrd.nd
  have hu := hu_of hr
  refine ⟨_, Evl.pss_cut (ps_lock (ps_setDc (i := 1) (own := [("name", 4)]) (g := gName 4) (by rfl) nd rfl rfl (sw_trueD rfl rfl rfl (by decide +kernel)) (pi_keys (pv 0)) (blkOk_by (N := nOrd) (sc := defScope sOrd) (by decide +kernel))
      (fun _ _ _ _ _ => pg_name (i := 4) nd rfl (.inl rfl)) (fun _ _ _ _ _ => pts_nil) (fun _ _ _ _ _ => pv 4) (fun _ _ _ _ _ => plst pa_nil)))
    (pss_cons (ps_set (i := 2) nd rfl (.inl rfl) pe_dnewK)
    (pss_cons (ps_set (i := 3) nd rfl (.inl rfl) (plst pa_nil))
    (Evl.pss_cut (ps_lock (ps_for PassesOwn.never rfl (pi_keys (pv 0)) (pg_name (i := 4) nd rfl (.inl rfl))
      (pss_cons (ps_set (i := 5) nd rfl (.inl rfl) (pe_callB (cr_sortW (by rfl)) (by rfl) T.sorted (by decide +kernel) (pa_cons
          (pe_scK (own := [("other", 6)]) (g := gName 6) (by rfl) nd (pi_list (pe_dget hu (pv 0) (pv 4) (fun _ _ => rfl))) (blkOk_by (N := nOrd) (sc := defScope sOrd) (by decide +kernel))
            (fun _ _ _ _ _ => pg_name (i := 6) nd rfl (.inl rfl)) (fun _ _ _ _ _ => pts_one (pt_cmp (pc_din hu (pv 6) (pv 0)) rfl)) (fun _ _ _ _ _ => pv 6)) pa_nil)))
      (pss_cons (ps_dput hu (pv 2) (pv 4) (pe_callB call_len_seq (by rfl) T.len PySem.boot_len (pa_cons (pv 5) pa_nil)) rfl)
      (pss_cons (ps_for PassesOwn.never rfl (pi_list (pv 5)) (pg_name (i := 6) nd rfl (.inl rfl))
        (pss_one (ps_expr (pe_bm PySem.F.plainAttrs_list PySem.F.slot_list_append PySem.F.type_list_append mt_append (pe_dget hu (pv 1) (pv 6) (fun _ _ => rfl)) (pa_cons (pv 4) pa_nil)))))
      (pss_one (ps_if (pt_not (pt_truth (pv 5) (by intro _; rfl))) (pss_one (ps_expr (pe_bm PySem.F.plainAttrs_list PySem.F.slot_list_append PySem.F.type_list_append mt_append (pv 3) (pa_cons (pv 4) pa_nil)))) pss_nil)))))))
    (pss_cons (ps_set (i := 7) nd rfl (.inl rfl) pe_int)
    (pss_cons (ps_while PassesOwn.never (pt_cmpR op_lt (pv 7) (pe_callB call_len_seq (by rfl) T.len PySem.boot_len (pa_cons (pv 3) pa_nil)) (nomark _))
      (pss_cons (ps_set (i := 8) nd rfl (.inl rfl) (pe_dget hu (pv 1) (pe_ix (ixL K) (pv 3) (pv 7) (fun _ _ => rfl)) (fun _ _ => rfl)))
      (pss_cons (ps_for PassesOwn.never rfl (pi_list (pv 8)) (pg_name (i := 4) nd rfl (.inl rfl))
        (pss_cons (ps_dput hu (pv 2) (pv 4) (pe_op op_sub (pe_dget hu (pv 2) (pv 4) (fun _ _ => rfl)) pe_int) rfl)
        (pss_one (ps_if (pt_cmpR op_eq (pe_dget hu (pv 2) (pv 4) (fun _ _ => rfl)) pe_int (nomark _)) (pss_one (ps_expr (pe_bm PySem.F.plainAttrs_list PySem.F.slot_list_append PySem.F.type_list_append mt_append (pv 3) (pa_cons (pv 4) pa_nil)))) pss_nil))))
      (pss_one (ps_aug (i := 7) nd rfl (.inl rfl) pe_int ip_add)))))
    (pss_one (ps_ret (pv 3)))))))), ?_⟩
  refine ⟨fun σ' G => ∃ D1 kvs1 ls, σ' = [some (.ref a), some (.ref D1), none, none, none, none, none, none, none] ∧ Same H G ∧ H D1 = none ∧ G D1 = some (.dK kvs1) ∧ RlAt H G kvs1 keys ls (fun _ => []), ?_, ?_⟩
  · refine ⟨a, _, ha, True.intro, fun od => ?_⟩
    have hf : upd H a (.frz od (.dK kvs)) a = some (.frz od (.dK kvs)) := upd_same
    have hun : ∀ {H2 : Hp}, Same (upd H a (.frz od (.dK kvs))) H2 → Same H (upd H2 a (.dK kvs)) := fun s2 => unlock ha s2
    have hfn : ∀ {l : Addr}, upd H a (.frz od (.dK kvs)) l = none → H l = none := fun {l} e => by
      by_cases z : l = a
      · rw [z, upd_same] at e; cases e
      · rw [upd_ne z] at e; exact e
    generalize upd H a (.frz od (.dK kvs)) = Hf at hf hun hfn ⊢
    refine ⟨_, rfl, a, od, rfl, .inl ⟨kvs, hf, fun c nc => dc_it (walk_keys (d := a) (o := od) (kvs := kvs)) (fun j G => Same Hf G ∧ ∃ kj ls, G c = some (.dK kj) ∧ RlAt Hf G kj (keys.take j) ls (fun _ => []))
      ⟨same_upd nc, [], [], upd_same, rfl, rfl, List.nodup_nil, (fun l h => by cases h), (fun i n l h => by simp at h)⟩ (fun j G _ hh => hh.1 _ _ hf) ?_ ?_⟩⟩
    · rintro j y G G' hj ⟨sG, kj, ls, gc, hR⟩ ⟨rfl, ky, vy, hky, rfl⟩
      obtain ⟨n, l, hn, rfl, rfl, _⟩ := hrd.row hky
      refine ⟨rfl, _, rfl, rd_l0 fun q G2 nq s2 hq => ?_⟩
      have gc2 := s2 _ _ gc
      have hkj := hR.keys_eq
      have hlen : kj.length ≤ 60 := by
        have := congrArg List.length hkj
        rw [List.length_map, List.length_map, List.length_take] at this
        omega
      have hnn := nodup_take_not hk hn
      refine ⟨kj, Sum.inr n, rfl, gc2, szl (by omega), (sG.trans s2).mut nc, _, ls ++ [q], upd_same, ?_⟩
      rw [putK_new _ (no_key hkj hnn), take_succ_at hn]
      exact (hR.snoc s2 (none_back2 sG nq) nq hq).updK gc2
    · rintro G ⟨sG, kj, ls, gc, hR⟩
      rw [hrd.len, List.take_length] at hR
      have hca : c ≠ a := fun z => by rw [z, hf] at nc; cases nc
      have ga := sG _ _ hf
      exact ⟨ga, c, kj, ls, rfl, hun sG, hfn nc, by rw [upd_ne hca]; exact gc, (hR.base fun _ => hfn).updF ga⟩
  rintro σ' G0 ⟨D1, kvs1, ls, rfl, s0, nD1, gD1, hR0⟩
  intro D2 nD2
  have s0' := same_upd (o := HO.dK []) nD2
  refine rd_l0 fun R Ga nR sR gRa => ?_
  have sA := (s0.trans s0').trans sR
  have gD1a := sR _ _ (s0' _ _ gD1)
  have gD2a : Ga D2 = some (.dK []) := sR _ _ upd_same
  have hRa := hR0.same (s0'.trans sR)
  have n12 : D1 ≠ D2 := fun z => by rw [← z, gD1] at nD2; cases nD2
  have nD2H : H D2 = none := none_back2 s0 nD2
  have nRH : H R = none := none_back2 (s0.trans s0') nR
  have nRl : ∀ l ∈ ls, l ≠ R := fun l hl z => by
    obtain ⟨xs, e⟩ := (hR0.same s0').isL l hl
    rw [z, nR] at e; cases e
  clear nR nD2 sR s0' hR0 gD1 s0
  have hknd := keys_nd hrd.1 hk
  let wc : Str → Int := fun n => (cnt keys rf [] n : Nat)
  refine ⟨fun σ' G => ∃ o4 o5 o6, σ' = [some (.ref a), some (.ref D1), some (.ref D2), some (.ref R), o4, o5, o6, none, none] ∧ Same H G ∧ G D1 = some (.dK kvs1) ∧ RlAt H G kvs1 keys ls (fun x => keys.filter fun n => decide (x ∈ rf n)) ∧
    G D2 = some (.dK (kN keys wc)) ∧ G R = some (.lst ((keys.filter fun n => decide (cnt keys rf [] n = 0)).map V.str)), ?_, ?_⟩
  · refine ⟨a, _, sA _ _ ha, True.intro, fun od => ?_⟩
    have hn_a : ∀ {b : Addr}, H b = none → b ≠ a := fun {b} e z => by rw [z, ha] at e; cases e
    have bl : But a H (upd Ga a (.frz od (.dK kvs))) := fun b o n e => by rw [upd_ne n]; exact sA _ _ e
    have gl : ∀ {b : Addr}, H b = none → upd Ga a (.frz od (.dK kvs)) b = Ga b := fun {b} e => upd_ne (hn_a e)
    have hf : upd Ga a (.frz od (.dK kvs)) a = some (.frz od (.dK kvs)) := upd_same
    have hRl : RlAt H (upd Ga a (.frz od (.dK kvs))) kvs1 keys ls (fun _ => []) := hRa.keep fun l hl => gl (hRa.fr l hl)
    have e1 := (gl nD1).trans gD1a
    have e2 := (gl nD2H).trans gD2a
    have e3 := (gl nRH).trans gRa
    generalize upd Ga a (.frz od (.dK kvs)) = Hl at bl hf hRl e1 e2 e3 ⊢
    clear gl
    refine ⟨_, rfl, a, od, rfl, .inl ⟨kvs, hf, for_it (walk_keys (d := a) (o := od) (kvs := kvs)) (fun j σ' G => ∃ o4 o5 o6, σ' = [some (.ref a), some (.ref D1), some (.ref D2), some (.ref R), o4, o5, o6, none, none] ∧ But a H G ∧ G a = some (.frz od (.dK kvs)) ∧ G D1 = some (.dK kvs1) ∧
        RlAt H G kvs1 keys ls (fun x => (keys.take j).filter fun n => decide (x ∈ rf n)) ∧ G D2 = some (.dK (kN (keys.take j) wc)) ∧ G R = some (.lst (((keys.take j).filter fun n => decide (cnt keys rf [] n = 0)).map V.str)))
      ⟨_, _, _, rfl, bl, hf, e1, hRl, e2, e3⟩ (fun j σ' G _ hh => by obtain ⟨_, _, _, _, _, h, _⟩ := hh; exact h) ?_ ?_⟩⟩
    · clear e1 e2 e3 hRl hf bl
      rintro j y σ' G G' hj ⟨o4, o5, o6, rfl, bG, ga, g1, hRl, g2, g3⟩ ⟨eH, ky, vy, hky, rfl⟩
      obtain rfl : G = G' := eH.symm
      obtain ⟨n, l, hn, rfl, rfl, hl⟩ := hrd.row hky
      have hnk := List.mem_of_getElem? hn
      have hnt := nodup_take_not hk hn
      have hrn := hrl n hnk
      have hl' : G l = some (.lst ((rf n).map V.str)) := bG _ _ (fun z => by rw [z, ha] at hl; cases hl) hl
      have dg : ∀ {G2 : Hp} (x : Str), Same G G2 → DGet G2 a (.str x) (valV kvs (Sum.inr x : Key)) := fun {G2} x s => .inl ⟨kvs, Sum.inr x, .inr ⟨od, s _ _ ga⟩, rfl, rfl⟩
      have dgn : DGet G a (.str n) (some (.ref l)) := by
        rw [← valV_at hknd hky]
        exact dg n (Same.refl G)
      refine ⟨_, rfl, _, rfl, a, .ref l, rfl, dgn, l, rfl, ⟨_, SqL.of hl'⟩, fun c nc => scK_it (P := P) (w := w) (walk_list (K := K) (a := l) (xs := (rf n).map V.str)) (fun i G2 => Same G G2 ∧ ∃ S m, G2 c = some (SetW P w c S m) ∧ m ≤ i ∧ ∀ kk, S kk = true ↔ ∃ x, kk = Sum.inr x ∧ x ∈ (rf n).take i ∧ x ∈ keys)
        ⟨same_upd nc, _, _, upd_same, Nat.le_refl 0, fun kk => ⟨fun h => (nomatch h), fun ⟨x, _, h, _⟩ => by simp at h⟩⟩ (fun j G2 _ hh => SqL.of (hh.1 _ _ hl')) ?_ ?_⟩
      · rintro i y2 G1 G1' hi ⟨s1, S, m, hS, hm, hkS⟩ ⟨rfl, ey⟩
        obtain ⟨x, hx, rfl⟩ := map_at ey
        have et := take_succ_at hx
        refine ⟨rfl, _, rfl, _, rfl, a, _, rfl, dg x s1, _, rfl, ?_⟩
        rw [valV_some_of hrd.1]
        by_cases hxk : x ∈ keys
        · rw [decide_eq_true hxk]
          refine iteT ⟨_, rfl, Sum.inr x, S, m, rfl, hS, ?_, s1.mut nc, _, _, upd_same, ?_, fun kk => ?_⟩
          · have hi2 : i < (rf n).length := by rw [List.length_map] at hi; exact hi
            exact Nat.lt_of_le_of_lt (show m + 1 ≤ 100 by omega) (by decide)
          · split <;> omega
          · rw [Bool.or_eq_true, hkS kk, decide_eq_true_eq, et]
            constructor
            · rintro (⟨z, e, h1, h2⟩ | e)
              · exact ⟨z, e, List.mem_append.mpr (.inl h1), h2⟩
              · exact ⟨x, e, List.mem_append.mpr (.inr (List.mem_singleton.mpr rfl)), hxk⟩
            · rintro ⟨z, e, h1, h2⟩
              rcases List.mem_append.mp h1 with h1 | h1
              · exact .inl ⟨z, e, h1, h2⟩
              · right
                rw [e, List.mem_singleton.mp h1]
        · rw [decide_eq_false hxk]
          refine iteF ⟨s1, S, m, hS, by omega, fun kk => ?_⟩
          rw [hkS kk, et]
          constructor
          · rintro ⟨z, e, h1, h2⟩
            exact ⟨z, e, List.mem_append.mpr (.inl h1), h2⟩
          · rintro ⟨z, e, h1, h2⟩
            rcases List.mem_append.mp h1 with h1 | h1
            · exact ⟨z, e, h1, h2⟩
            · exact absurd (by rw [← List.mem_singleton.mp h1]; exact h2) hxk
      rintro G1 ⟨s1, S, m, hS, hm, hkS⟩
      rw [List.length_map] at hm
      simp only [List.length_map, List.take_length] at hkS
      refine ⟨c, S, m, rfl, hS, by omega, fun kk hk' => ?_, fun ys r srt hyn hmem hlen nr => ?_⟩
      · obtain ⟨x, e, _⟩ := (hkS kk).mp hk'
        exact ⟨x, e⟩
      have hy : ∀ x, x ∈ ys ↔ x ∈ rf n ∧ x ∈ keys := fun x => by
        rw [hmem x, hkS]
        constructor
        · rintro ⟨z, e, h1, h2⟩
          rw [Sum.inr.inj e]; exact ⟨h1, h2⟩
        · rintro ⟨h1, h2⟩
          exact ⟨x, rfl, h1, h2⟩
      have hrl1 : ∀ l ∈ ls, l ≠ r := fun l hl z => by
        obtain ⟨xs, e⟩ := (hRl.same s1).isL l hl
        rw [z, nr] at e; cases e
      have nrR : R ≠ r := fun z => by
        have := s1 _ _ g3
        rw [z, nr] at this; cases this
      have nrD2 : D2 ≠ r := fun z => by
        have := s1 _ _ g2
        rw [z, nr] at this; cases this
      have nra : a ≠ r := fun z => by
        have := s1 _ _ ga
        rw [z, nr] at this; cases this
      have nrH : ∀ {b : Addr} {o : HO}, b ≠ a → H b = some o → b ≠ r := fun {b o} hb e z => by
        have := s1 _ _ (bG _ _ hb e)
        rw [z, nr] at this; cases this
      have s2 := s1.trans (same_upd (o := HO.lst (ys.map V.str)) nr)
      have hr2 : upd G1 r (.lst (ys.map V.str)) r = some (.lst (ys.map V.str)) := upd_same
      generalize upd G1 r (.lst (ys.map V.str)) = G2 at s2 hr2 ⊢
      have elen : (((ys.map V.str).length : Nat) : Int) = wc n := by
        rw [List.length_map, cnt_len hk hyn hy]
      refine ⟨_, rfl, r, _, rfl, .inl (SqL.of hr2), _, rfl, _, rfl, D2, _, rfl, DPut.k (k := Sum.inr n) (s2 _ _ g2) (szl (by rw [kN_len, List.length_take]; omega)), ?_⟩
      rw [kN_new hnt elen.symm]
      have hn_D2 : ∀ {b : Addr} {o : HO}, H b = some o → b ≠ D2 := fun {b o} e z => by rw [z, nD2H] at e; cases e
      have b3 : But a H (upd G2 D2 (.dK (kN (keys.take j ++ [n]) wc))) := fun b o hb e => by
        rw [upd_ne (hn_D2 e)]; exact s2 _ _ (bG _ _ hb e)
      have ga3 : upd G2 D2 (.dK (kN (keys.take j ++ [n]) wc)) a = some (.frz od (.dK kvs)) := by rw [upd_ne (hn_D2 ha)]; exact s2 _ _ ga
      have g13 : upd G2 D2 (.dK (kN (keys.take j ++ [n]) wc)) D1 = some (.dK kvs1) := by rw [upd_ne n12]; exact s2 _ _ g1
      have hR3 := (hRl.same s2).updK (o := .dK (kN (keys.take j ++ [n]) wc)) (s2 _ _ g2)
      have g23 : upd G2 D2 (.dK (kN (keys.take j ++ [n]) wc)) D2 = some (.dK (kN (keys.take j ++ [n]) wc)) := upd_same
      have g33 : upd G2 D2 (.dK (kN (keys.take j ++ [n]) wc)) R = some (.lst (((keys.take j).filter fun n => decide (cnt keys rf [] n = 0)).map V.str)) := by
        rw [upd_ne (fun z => by have := s2 _ _ g3; rw [z, s2 _ _ g2] at this; cases this)]; exact s2 _ _ g3
      have gr3 : upd G2 D2 (.dK (kN (keys.take j ++ [n]) wc)) r = some (.lst (ys.map V.str)) := by rw [upd_ne nrD2.symm]; exact hr2
      generalize upd G2 D2 (.dK (kN (keys.take j ++ [n]) wc)) = G3 at b3 ga3 g13 hR3 g23 g33 gr3 ⊢
      refine ⟨_, rfl, r, rfl, ⟨_, SqL.of gr3⟩, for_it (walk_list (K := K) (a := r) (xs := ys.map V.str)) (fun i σ' G4 => ∃ o6, σ' = [some (.ref a), some (.ref D1), some (.ref D2), some (.ref R), some (.str n), some (.ref r), o6, none, none] ∧ But a H G4 ∧ G4 a = some (.frz od (.dK kvs)) ∧ G4 D1 = some (.dK kvs1) ∧
          RlAt H G4 kvs1 keys ls (fun x => ((keys.take j).filter fun n => decide (x ∈ rf n)) ++ if x ∈ ys.take i then [n] else []) ∧ G4 D2 = some (.dK (kN (keys.take j ++ [n]) wc)) ∧ G4 R = some (.lst (((keys.take j).filter fun n => decide (cnt keys rf [] n = 0)).map V.str)) ∧ G4 r = some (.lst (ys.map V.str)))
        ⟨_, rfl, b3, ga3, g13, hR3.congr (fun x _ => by simp), g23, g33, gr3⟩ (fun i σ' G4 _ hh => by obtain ⟨_, _, _, _, _, _, _, _, h⟩ := hh; exact SqL.of h) ?_ ?_⟩
      · rintro i y3 σ' G4 G4' hi ⟨o6, rfl, b4, ga4, g14, hR4, g24, g34, gr4⟩ ⟨eH, ey⟩
        obtain rfl : G4 = G4' := eH.symm
        obtain ⟨x, hx, rfl⟩ := map_at ey
        have hxk := ((hy x).mp (List.mem_of_getElem? hx)).2
        obtain ⟨i0, hi0⟩ := List.mem_iff_getElem?.mp hxk
        obtain ⟨l2, hl2, hv2, gl2⟩ := hR4.get hk hi0
        have hl2m := List.mem_of_getElem? hl2
        have hxt : x ∉ ys.take i := nodup_take_not hyn hx
        have dg2 : DGet G4 D1 (.str x) (some (.ref l2)) := by
          rw [← hv2]
          exact .inl ⟨kvs1, Sum.inr x, .inl g14, rfl, rfl⟩
        have hFl : ((((keys.take j).filter fun n => decide (x ∈ rf n)) ++ if x ∈ ys.take i then [n] else []).map V.str).length < sizeLine := by
          have h1 := List.length_filter_le (fun n => decide (x ∈ rf n)) (keys.take j)
          rw [List.length_take] at h1
          rw [if_neg hxt, List.append_nil, List.length_map]
          exact szl (by omega)
        refine ⟨_, rfl, _, rfl, D1, .ref l2, rfl, dg2, .inl ⟨rfl, _, SqL.of gl2⟩, _, rfl, l2, _, _, rfl, rfl, gl2, hFl, ?_⟩
        have hl2H := hR4.fr l2 hl2m
        refine ⟨_, rfl, fun b o hb e => ?_, ?_, ?_, hR4.push hk hi0 hl2 (fun x' hx' => ?_), ?_, ?_, ?_⟩
        · rw [upd_ne (fun z => by rw [z, hl2H] at e; cases e)]; exact b4 _ _ hb e
        · rw [upd_ne (fun z => by rw [← z, ha] at hl2H; cases hl2H)]; exact ga4
        · rw [upd_ne (fun z => by rw [z, gl2] at g14; cases g14)]; exact g14
        · have et := take_succ_at hx
          rw [et]
          by_cases e : x' = x
          · subst e
            rw [if_pos rfl, if_neg hxt, List.append_nil, if_pos (List.mem_append.mpr (.inr (List.mem_singleton.mpr rfl)))]
          · rw [if_neg e]
            congr 1
            by_cases h2 : x' ∈ ys.take i
            · rw [if_pos h2, if_pos (List.mem_append.mpr (.inl h2))]
            · rw [if_neg h2, if_neg (fun z => by
                rcases List.mem_append.mp z with z | z
                · exact h2 z
                · exact e (List.mem_singleton.mp z))]
        · rw [upd_ne (fun z => by rw [z, gl2] at g24; cases g24)]; exact g24
        · rw [upd_ne (fun z => nRl l2 hl2m z.symm)]; exact g34
        · rw [upd_ne (fun z => hrl1 l2 hl2m z.symm)]; exact gr4
      rintro σ' G4 ⟨o6, rfl, b4, ga4, g14, hR4, g24, g34, gr4⟩
      have et := take_succ_at hn
      have hR5 : RlAt H G4 kvs1 keys ls (fun x => (keys.take (j + 1)).filter fun n => decide (x ∈ rf n)) := hR4.congr fun x hx => by
        rw [et, List.filter_append, List.length_map, List.take_length]
        congr 1
        by_cases hxr : x ∈ rf n
        · rw [if_pos ((hy x).mpr ⟨hxr, hx⟩)]
          simp [hxr]
        · rw [if_neg (fun z => hxr ((hy x).mp z).1)]
          simp [hxr]
      have elz : cnt keys rf [] n = ys.length := (cnt_len hk hyn hy).symm
      refine ⟨_, rfl, !ys.isEmpty, .inl ⟨_, SqL.of gr4, by cases ys <;> rfl⟩, ?_⟩
      cases ys with
      | nil =>
        have ez : cnt keys rf [] n = 0 := elz
        have hrl2 : (((keys.take j).filter fun n => decide (cnt keys rf [] n = 0)).map V.str).length < sizeLine := by
          have h1 := List.length_filter_le (fun n => decide (cnt keys rf [] n = 0)) (keys.take j)
          rw [List.length_take] at h1
          rw [List.length_map]
          exact szl (by omega)
        refine iteT ⟨_, rfl, .inl ⟨rfl, _, SqL.of g34⟩, _, rfl, R, _, _, rfl, rfl, g34, hrl2, ?_⟩
        refine ⟨_, _, _, rfl, fun b o hb e => ?_, ?_, ?_, hR5.keep (fun l hl => upd_ne (fun z => nRl l hl z)), ?_, ?_⟩
        · rw [upd_ne (fun z => by rw [z, nRH] at e; cases e)]; exact b4 _ _ hb e
        · rw [upd_ne (fun z => by rw [← z, ha] at nRH; cases nRH)]; exact ga4
        · rw [upd_ne (fun z => by rw [z, g34] at g14; cases g14)]; exact g14
        · rw [upd_ne (fun z => by rw [z, g34] at g24; cases g24), et]; exact g24
        · rw [upd_same, et, List.filter_append, List.map_append]
          simp [ez]
      | cons z zs =>
        have ez : ¬ cnt keys rf [] n = 0 := by rw [elz]; simp
        refine iteF ⟨_, _, _, rfl, b4, ga4, g14, hR5, ?_, ?_⟩
        · rw [et]; exact g24
        · rw [et, List.filter_append]
          simp [ez]
          exact g34
    · rintro σ' G ⟨o4, o5, o6, rfl, bG, ga, g1, hRl, g2, g3⟩
      rw [hrd.len, List.take_length] at g2 g3
      simp only [hrd.len, List.take_length] at hRl
      refine ⟨ga, _, _, _, rfl, fun b o e => ?_, ?_, hRl.updF ga, ?_, ?_⟩
      · by_cases hb : b = a
        · rw [hb, upd_same, ← ha, ← e, hb]
        · rw [upd_ne hb]; exact bG _ _ hb e
      · rw [upd_ne (hn_a nD1)]; exact g1
      · rw [upd_ne (hn_a nD2H)]; exact g2
      · rw [upd_ne (hn_a nRH)]; exact g3
  rintro σ' G ⟨o4, o5, o6, rfl, sG, g1, hRl, g2, g3⟩
  refine ⟨fun m σ' G => ∃ (at_ : Nat) (wf : Str → Int) (ready : List Str) (o4 o8 : Option V), σ' = [some (.ref a), some (.ref D1), some (.ref D2), some (.ref R), o4, o5, o6, some (.int at_), o8] ∧ Same H G ∧ G D1 = some (.dK kvs1) ∧ RlAt H G kvs1 keys ls (fun x => keys.filter fun n => decide (x ∈ rf n)) ∧
    G D2 = some (.dK (kN keys wf)) ∧ G R = some (.lst (ready.map V.str)) ∧ OrdI keys rf at_ wf ready ∧ m + at_ = keys.length, ⟨keys.length, 0, wc, _, _, _, rfl, sG, g1, hRl, g2, g3, OrdI.start hk, rfl⟩, ?_⟩
  clear g1 g2 g3 hRl sG
  rintro m σ' G ⟨at_, wf, ready, o4, o8, rfl, sG, g1, hRl, g2, g3, I, hm⟩
  have hle := I.len
  refine ⟨_, rfl, _, rfl, R, _, rfl, .inl (SqL.of g3), _, _, rfl, rfl, _, rfl, ?_⟩
  by_cases hlt : at_ < ready.length
  case neg =>
    rw [decide_eq_false (show ¬ (at_ : Int) < ((ready.map V.str).length : Nat) by rw [List.length_map]; omega)]
    exact iteF ⟨_, rfl, k R G ready sG nRH g3 (I.fin (by omega))⟩
  rw [decide_eq_true (show (at_ : Int) < ((ready.map V.str).length : Nat) by rw [List.length_map]; omega)]
  obtain ⟨m', rfl⟩ : ∃ m', m = m' + 1 := ⟨m - 1, by omega⟩
  refine iteT ⟨fun σ' G => ∃ (at_ : Nat) (wf : Str → Int) (ready : List Str) (o4 o8 : Option V), σ' = [some (.ref a), some (.ref D1), some (.ref D2), some (.ref R), o4, o5, o6, some (.int at_), o8] ∧ Same H G ∧ G D1 = some (.dK kvs1) ∧ RlAt H G kvs1 keys ls (fun x => keys.filter fun n => decide (x ∈ rf n)) ∧
    G D2 = some (.dK (kN keys wf)) ∧ G R = some (.lst (ready.map V.str)) ∧ OrdI keys rf at_ wf ready ∧ m' + at_ = keys.length, fun σ' G' hN => ⟨m', Nat.lt_succ_self _, hN⟩, ?_⟩
  have hx : ready[at_]? = some ready[at_] := List.getElem?_eq_getElem hlt
  generalize ready[at_] = x at hx
  have hxk := I.sub x (List.mem_of_getElem? hx)
  obtain ⟨i0, hi0⟩ := List.mem_iff_getElem?.mp hxk
  obtain ⟨l2, hl2, hv2, gl2⟩ := hRl.get hk hi0
  have hl2m := List.mem_of_getElem? hl2
  have hl2H := hRl.fr l2 hl2m
  have dg1 : DGet G D1 (.str x) (some (.ref l2)) := by
    rw [← hv2]
    exact .inl ⟨kvs1, Sum.inr x, .inl g1, rfl, rfl⟩
  have hxa : (ready.map V.str)[at_]? = some (.str x) := by rw [List.getElem?_map, hx]; rfl
  refine ⟨_, rfl, _, rfl, _, rfl, R, _, (at_ : Int), _, rfl, rfl, SqL.of g3, atI_nat hxa, D1, .ref l2, rfl, dg1, ?_⟩
  have hfn : (keys.filter fun n => decide (x ∈ rf n)).Nodup := hk.filter _
  have hfl : (keys.filter fun n => decide (x ∈ rf n)).length ≤ 60 := Nat.le_trans (List.length_filter_le _ _) hkl
  have hfk : ∀ n ∈ keys.filter (fun n => decide (x ∈ rf n)), n ∈ keys := fun n hn => (List.mem_filter.mp hn).1
  generalize hfr : (keys.filter fun n => decide (x ∈ rf n)) = freed at gl2 hfn hfl hfk
  refine ⟨_, rfl, l2, rfl, ⟨_, SqL.of gl2⟩, for_it (walk_list (K := K) (a := l2) (xs := freed.map V.str)) (fun j σ' G => ∃ (wf' : Str → Int) (ready' : List Str) (o4 : Option V), σ' = [some (.ref a), some (.ref D1), some (.ref D2), some (.ref R), o4, o5, o6, some (.int at_), some (.ref l2)] ∧ Same H G ∧ G D1 = some (.dK kvs1) ∧
      RlAt H G kvs1 keys ls (fun x => keys.filter fun n => decide (x ∈ rf n)) ∧ G D2 = some (.dK (kN keys wf')) ∧ G R = some (.lst (ready'.map V.str)) ∧ OrdJ keys rf at_ ready freed j wf' ready' ∧ ready'.length ≤ ready.length + j ∧ G l2 = some (.lst (freed.map V.str)))
    ⟨wf, ready, _, rfl, sG, g1, hRl, g2, g3, I.enter freed, Nat.le_refl _, gl2⟩ (fun j σ' G _ hh => by obtain ⟨_, _, _, _, _, _, _, _, _, _, _, h⟩ := hh; exact SqL.of h) ?_ ?_⟩
  · clear g1 g2 g3 gl2 sG hRl dg1
    rintro j y σ' G G' hj ⟨wf', ready', o4, rfl, sG, g1, hRl, g2, g3, J, hrl', gl2⟩ ⟨eH, ey⟩
    obtain rfl : G = G' := eH.symm
    obtain ⟨n, hn, rfl⟩ := map_at ey
    have hnk := hfk n (List.mem_of_getElem? hn)
    have hjf : j < freed.length := (List.getElem?_eq_some_iff.mp hn).1
    obtain ⟨_, J'⟩ := J.step hfn hn hnk
    have dg2 : DGet G D2 (.str n) (some (.int (wf' n))) := by
      rw [← kN_get hnk]
      exact .inl ⟨_, Sum.inr n, .inl g2, rfl, rfl⟩
    refine ⟨_, rfl, _, rfl, D2, .int (wf' n), rfl, dg2, _, _, rfl, rfl, _, rfl, _, rfl, D2, _, rfl, DPut.k (k := Sum.inr n) g2 (szl (by rw [kN_len]; omega)), ?_⟩
    rw [kN_put hnk]
    have hn_D2 : ∀ {b : Addr} {o : HO}, H b = some o → b ≠ D2 := fun {b o} e z => by rw [z, nD2H] at e; cases e
    have s3 : Same H (upd G D2 (.dK (kN keys fun x => if x = n then wf' n - 1 else wf' x))) := sG.mut nD2H
    have g13 : upd G D2 (.dK (kN keys fun x => if x = n then wf' n - 1 else wf' x)) D1 = some (.dK kvs1) := by rw [upd_ne n12]; exact g1
    have hR3 := hRl.updK (o := .dK (kN keys fun x => if x = n then wf' n - 1 else wf' x)) g2
    have g23 : upd G D2 (.dK (kN keys fun x => if x = n then wf' n - 1 else wf' x)) D2 = some (.dK (kN keys fun x => if x = n then wf' n - 1 else wf' x)) := upd_same
    have g33 : upd G D2 (.dK (kN keys fun x => if x = n then wf' n - 1 else wf' x)) R = some (.lst (ready'.map V.str)) := by
      rw [upd_ne (fun z => by rw [z, g2] at g3; cases g3)]; exact g3
    have gl3 : upd G D2 (.dK (kN keys fun x => if x = n then wf' n - 1 else wf' x)) l2 = some (.lst (freed.map V.str)) := by
      rw [upd_ne (fun z => by rw [z, g2] at gl2; cases gl2)]; exact gl2
    generalize upd G D2 (.dK (kN keys fun x => if x = n then wf' n - 1 else wf' x)) = G3 at s3 g13 hR3 g23 g33 gl3 ⊢
    have dg3 : DGet G3 D2 (.str n) (some (.int (wf' n - 1))) := by
      have e : valV (kN keys fun x => if x = n then wf' n - 1 else wf' x) (Sum.inr n : Key) = some (.int (wf' n - 1)) := by
        rw [kN_get hnk]; simp
      rw [← e]
      exact .inl ⟨_, Sum.inr n, .inl g23, rfl, rfl⟩
    refine ⟨_, rfl, _, rfl, D2, .int (wf' n - 1), rfl, dg3, rfl, _, rfl, ?_⟩
    rw [dec_int]
    by_cases hz : wf' n - 1 = 0
    · rw [if_pos hz] at J'
      rw [decide_eq_true hz]
      refine iteT ⟨_, rfl, .inl ⟨rfl, _, SqL.of g33⟩, _, rfl, R, _, _, rfl, rfl, g33, (by rw [List.length_map]; exact szl (by omega)), ?_⟩
      refine ⟨_, ready' ++ [n], _, rfl, s3.mut nRH, ?_, hR3.keep (fun l hl => upd_ne (fun z => nRl l hl z)), ?_, ?_, J', ?_, ?_⟩
      · rw [upd_ne (fun z => by rw [z, g33] at g13; cases g13)]; exact g13
      · rw [upd_ne (fun z => by rw [z, g33] at g23; cases g23)]; exact g23
      · rw [upd_same, List.map_append]; rfl
      · rw [List.length_append, List.length_singleton]; omega
      · rw [upd_ne (fun z => nRl l2 hl2m z)]; exact gl3
    · rw [if_neg hz] at J'
      rw [decide_eq_false hz]
      exact iteF ⟨_, ready', _, rfl, s3, g13, hR3, g23, g33, J', by omega, gl3⟩
  · rintro σ' G ⟨wf', ready', o4, rfl, sG, g1, hRl, g2, g3, J, hrl', gl2⟩
    rw [List.length_map] at J
    refine ⟨_, rfl, _, _, rfl, rfl, ?_⟩
    exact ⟨at_ + 1, wf', ready', _, _, rfl, sG, g1, hRl, g2, g3, I.leave hk hx hfr.symm J, by omega⟩
end
end PN
namespace PN
section
variable {α : Type} [DecidableEq α]
/-- registers of a wire, behind moves -/
def rg (mv : α → Int) (q : α × α × Int) : Int := q.2.2 + mv q.2.1 - mv q.1
/-- a wire without registers between gates -/
def Zr (ws : List (α × α × Int)) (out : α) (mv : α → Int) (b t : α) : Prop := ∃ q ∈ ws, q.1 = b ∧ q.2.1 = t ∧ rg mv q = 0 ∧ b ≠ out ∧ t ≠ out
structure LongAt (d : α → Int) (Z : α → α → Prop) (S : α → Int) (n : α) : Prop where
  up : ∀ b, Z b n → S b + d n ≤ S n
  low : d n ≤ S n
  eq : S n = d n ∨ ∃ b, Z b n ∧ S n = S b + d n
def Ring (Z : α → α → Prop) : Prop := ∃ R : List α, R ≠ [] ∧ ∀ n ∈ R, ∃ b ∈ R, Z b n
/-- what the beat is -/
def BeatIs (keys : List α) (d : α → Int) (ws : List (α × α × Int)) (out : α) (mv : α → Int) : Option Int → Prop
  | none => (∃ q ∈ ws, rg mv q < 0) ∨ Ring (Zr ws out mv)
  | some m => (∀ q ∈ ws, 0 ≤ rg mv q) ∧ ∃ (S : α → Int) (rank : α → Nat), (∀ n ∈ keys, LongAt d (Zr ws out mv) S n) ∧ (∀ b n, Zr ws out mv b n → rank b < rank n) ∧ (∀ n ∈ keys, S n ≤ m) ∧ ∃ n ∈ keys, S n = m
theorem no_ring {Z : α → α → Prop} {rank : α → Nat} (h : ∀ b n, Z b n → rank b < rank n) : ¬ Ring Z := by
  rintro ⟨R, hne, hR⟩
  have : ∀ k n, n ∈ R → rank n ≤ k → False := by
    intro k
    induction k with
    | zero =>
      intro n hn hk
      obtain ⟨b, hb, z⟩ := hR n hn
      have := h b n z
      omega
    | succ k ih =>
      intro n hn hk
      obtain ⟨b, hb, z⟩ := hR n hn
      have := h b n z
      exact ih b hb (by omega)
  cases R with
  | nil => exact hne rfl
  | cons n R => exact this (rank n) n List.mem_cons_self (Nat.le_refl _)
theorem long_le {keys : List α} {d : α → Int} {Z : α → α → Prop} {S1 S2 : α → Int} {rank : α → Nat} (hr : ∀ b n, Z b n → rank b < rank n) (hk : ∀ b n, Z b n → b ∈ keys) (h1 : ∀ n ∈ keys, LongAt d Z S1 n) (h2 : ∀ n ∈ keys, LongAt d Z S2 n) : ∀ n ∈ keys, S1 n ≤ S2 n := by
  have : ∀ k n, n ∈ keys → rank n ≤ k → S1 n ≤ S2 n := by
    intro k
    induction k with
    | zero =>
      intro n hn hk0
      rcases (h1 n hn).eq with e | ⟨b, z, e⟩
      · rw [e]; exact (h2 n hn).low
      · have := hr b n z; omega
    | succ k ih =>
      intro n hn hk0
      rcases (h1 n hn).eq with e | ⟨b, z, e⟩
      · rw [e]; exact (h2 n hn).low
      · have h3 := hr b n z
        have h4 := ih b (hk b n z) (by omega)
        have h5 := (h2 n hn).up b z
        omega
  exact fun n hn => this (rank n) n hn (Nat.le_refl _)
theorem BeatIs.uniq {keys : List α} {d : α → Int} {ws : List (α × α × Int)} {out : α} {mv : α → Int} (hw : ∀ q ∈ ws, q.1 ∈ keys ∧ q.2.1 ∈ keys) {r1 r2 : Option Int} (h1 : BeatIs keys d ws out mv r1) (h2 : BeatIs keys d ws out mv r2) : r1 = r2 := by
  have hk : ∀ b n, Zr ws out mv b n → b ∈ keys := fun b n ⟨q, hq, e, _⟩ => e ▸ (hw q hq).1
  have nn : ∀ {m : Int}, BeatIs keys d ws out mv none → BeatIs keys d ws out mv (some m) → False := fun {m} a b => by
    obtain ⟨b1, S, rank, b2, b3, _⟩ := b
    rcases a with ⟨q, hq, hl⟩ | hR
    · have := b1 q hq; omega
    · exact no_ring b3 hR
  cases r1 with
  | none =>
    cases r2 with
    | none => rfl
    | some m => exact (nn h1 h2).elim
  | some m1 =>
    cases r2 with
    | none => exact (nn h2 h1).elim
    | some m2 =>
      obtain ⟨_, S1, rank1, a2, a3, a4, n1, hn1, e1⟩ := h1
      obtain ⟨_, S2, rank2, b2, b3, b4, n2, hn2, e2⟩ := h2
      have l1 := long_le a3 hk a2 b2 n1 hn1
      have l2 := long_le b3 hk b2 a2 n2 hn2
      have := b4 n1 hn1
      have := a4 n2 hn2
      congr 1
      omega
/-! ### by an order -/
theorem mem_take_lt {o : List α} (hn : o.Nodup) {i : Nat} {b : α} (h : b ∈ o.take i) : o.idxOf b < i := by
  obtain ⟨j, hj, e⟩ := List.mem_iff_getElem.mp h
  rw [List.length_take] at hj
  rw [List.getElem_take] at e
  have hb : b ∈ o := List.mem_of_mem_take h
  have h1 := List.idxOf_lt_length_of_mem hb
  have h2 : o[o.idxOf b] = b := List.getElem_idxOf h1
  have : o.idxOf b = j := (List.getElem_inj hn).mp (h2.trans e.symm)
  omega
theorem ord_ring {keys : List α} {rf : α → List α} {o : List α} (h : OrdOk keys rf o) (hl : o.length < keys.length) (hk : keys.Nodup) {Z : α → α → Prop} (hZ : ∀ b n, b ∈ rf n → b ∈ keys → Z b n) : Ring Z := by
  refine ⟨keys.filter fun n => !decide (n ∈ o), ?_, fun n hn => ?_⟩
  · intro e
    have hs : ∀ x ∈ keys, x ∈ o := fun x hx => Classical.byContradiction fun hno => by
      have : x ∈ keys.filter fun n => !decide (n ∈ o) := List.mem_filter.mpr ⟨hx, by simp [hno]⟩
      rw [e] at this
      cases this
    have : ∀ (l m : List α), l.Nodup → (∀ x ∈ l, x ∈ m) → l.length ≤ m.length := by
      intro l
      induction l with
      | nil => intro m _ _; exact Nat.zero_le _
      | cons a l ih =>
        intro m hn hs
        rw [List.nodup_cons] at hn
        have ham := hs a List.mem_cons_self
        have := ih (m.erase a) hn.2 fun x hx => (List.mem_erase_of_ne (fun z => by subst z; exact hn.1 hx)).mpr (hs x (List.mem_cons_of_mem _ hx))
        rw [List.length_erase_of_mem ham] at this
        have hpos : 0 < m.length := List.length_pos_of_mem ham
        rw [List.length_cons]; omega
    have := this keys o hk hs
    omega
  · obtain ⟨hnk, hno⟩ := List.mem_filter.mp hn
    have hno' : n ∉ o := by simpa using hno
    obtain ⟨b, hb, hbk, hbo⟩ := h.2.2.2 n hnk hno'
    exact ⟨b, List.mem_filter.mpr ⟨hbk, by simp [hbo]⟩, hZ b n hb hbk⟩
theorem ord_all {keys : List α} {rf : α → List α} {o : List α} (h : OrdOk keys rf o) (hl : ¬ o.length < keys.length) : ∀ n ∈ keys, n ∈ o := by
  intro n hn
  refine Classical.byContradiction fun hno => hl ?_
  have : ∀ (l m : List α), l.Nodup → (∀ x ∈ l, x ∈ m) → l.length ≤ m.length := by
    intro l
    induction l with
    | nil => intro m _ _; exact Nat.zero_le _
    | cons a l ih =>
      intro m hn hs
      rw [List.nodup_cons] at hn
      have ham := hs a List.mem_cons_self
      have := ih (m.erase a) hn.2 fun x hx => (List.mem_erase_of_ne (fun z => by subst z; exact hn.1 hx)).mpr (hs x (List.mem_cons_of_mem _ hx))
      rw [List.length_erase_of_mem ham] at this
      have hpos : 0 < m.length := List.length_pos_of_mem ham
      rw [List.length_cons]; omega
  have h2 := this o (keys.erase n) h.1 fun x hx => (List.mem_erase_of_ne (fun z => by subst z; exact hno hx)).mpr (h.2.1 x hx)
  rw [List.length_erase_of_mem hn] at h2
  have := List.length_pos_of_mem hn
  omega
theorem ord_rank {keys : List α} {rf : α → List α} {o : List α} (h : OrdOk keys rf o) (hall : ∀ n ∈ keys, n ∈ o) {Z : α → α → Prop} (hZ : ∀ b n, Z b n → b ∈ rf n ∧ b ∈ keys ∧ n ∈ keys) : ∀ b n, Z b n → o.idxOf b < o.idxOf n := by
  intro b n z
  obtain ⟨h1, h2, h3⟩ := hZ b n z
  have hn := hall n h3
  have hl := List.idxOf_lt_length_of_mem hn
  exact mem_take_lt h.1 (h.2.2.1 _ n (by rw [List.getElem?_eq_getElem hl, List.getElem_idxOf hl]) b h1 h2)
theorem long_snoc {keys : List α} {rf : α → List α} {o : List α} {d : α → Int} {Z : α → α → Prop} {S : α → Int} {i : Nat} {n : α} {M : Int} (h : OrdOk keys rf o) (hZ : ∀ b n, Z b n ↔ b ∈ rf n ∧ n ∈ keys) (hrk : ∀ n ∈ keys, ∀ b ∈ rf n, b ∈ keys) (hd : ∀ n ∈ keys, 0 ≤ d n)
    (hS : ∀ n ∈ o.take i, LongAt d Z S n) (hi : o[i]? = some n) (h0 : rf n = [] → M = 0) (h1 : rf n ≠ [] → (∃ b ∈ rf n, M = S b) ∧ ∀ b ∈ rf n, S b ≤ M) :
    ∀ x ∈ o.take (i + 1), LongAt d Z (fun x => if x = n then d n + M else S x) x := by
  have hnk : n ∈ keys := h.2.1 n (List.mem_of_getElem? hi)
  have hnt : n ∉ o.take i := not_in_take h.1 hi
  have hback : ∀ x ∈ o.take i, ∀ b, Z b x → b ≠ n := by
    intro x hx b z
    obtain ⟨j, hj, e⟩ := List.mem_iff_getElem.mp hx
    rw [List.length_take] at hj
    rw [List.getElem_take] at e
    obtain ⟨hb, hxk⟩ := (hZ b x).mp z
    have := h.2.2.1 j x (by rw [List.getElem?_eq_getElem (by omega), e]) b hb (hrk x hxk b hb)
    intro eb
    subst eb
    have : b ∈ o.take i := by
      have hp : o.take j <+: o.take i := List.take_prefix_take_left (by omega)
      exact hp.subset this
    exact hnt this
  intro x hx
  rw [List.take_add_one, hi] at hx
  rcases List.mem_append.mp hx with hx | hx
  · have hL := hS x hx
    have hxn : x ≠ n := fun z => hnt (z ▸ hx)
    refine ⟨fun b z => ?_, ?_, ?_⟩
    · have := hback x hx b z
      rw [if_neg this, if_neg hxn]
      exact hL.up b z
    · rw [if_neg hxn]; exact hL.low
    · rw [if_neg hxn]
      rcases hL.eq with e | ⟨b, z, e⟩
      · exact .inl e
      · exact .inr ⟨b, z, by rw [if_neg (hback x hx b z)]; exact e⟩
  · have hxn : x = n := by simpa using hx
    subst hxn
    have hb : ∀ b, b ∈ rf x → b ∈ o.take i := fun b hb => h.2.2.1 i x hi b hb (hrk x hnk b hb)
    have hbx : ∀ b, b ∈ rf x → b ≠ x := fun b h2 z => hnt (z ▸ hb b h2)
    refine ⟨fun b z => ?_, ?_, ?_⟩
    · have h2 := ((hZ b x).mp z).1
      rw [if_pos rfl, if_neg (hbx b h2)]
      have := (h1 (List.ne_nil_of_mem h2)).2 b h2
      omega
    · rw [if_pos rfl]
      by_cases e : rf x = []
      · have := h0 e; omega
      · obtain ⟨⟨b, hb2, eM⟩, _⟩ := h1 e
        have h3 := (hS b (hb b hb2)).low
        have := hd b (hrk x hnk b hb2)
        omega
    · rw [if_pos rfl]
      by_cases e : rf x = []
      · left; have := h0 e; omega
      · right
        obtain ⟨⟨b, hb2, eM⟩, _⟩ := h1 e
        exact ⟨b, (hZ b x).mpr ⟨hb2, hnk⟩, by rw [if_neg (hbx b hb2)]; omega⟩
end
end PN
/-! max(xs, default=d); list(d.values()) -/
namespace LayT
open PySem PySem.Spec PyProof.Rows L2
theorem maxOf_in : ∀ (xs : List Int) (x : Int), (PySem.W.maxOf x xs = x ∨ PySem.W.maxOf x xs ∈ xs) ∧ x ≤ PySem.W.maxOf x xs ∧ ∀ y ∈ xs, y ≤ PySem.W.maxOf x xs := by
  intro xs
  induction xs with
  | nil => intro x; exact ⟨.inl rfl, Int.le_refl _, fun y h => by cases h⟩
  | cons z zs ih =>
    intro x
    have e : PySem.W.maxOf x (z :: zs) = PySem.W.maxOf (if decide (x < z) = true then z else x) zs := rfl
    rw [e]
    by_cases h : x < z
    · rw [decide_eq_true h, if_pos rfl]
      obtain ⟨h1, h2, h3⟩ := ih z
      refine ⟨.inr ?_, by omega, fun y hy => ?_⟩
      · rcases h1 with h1 | h1
        · rw [h1]; exact List.mem_cons_self
        · exact List.mem_cons_of_mem _ h1
      · rcases List.mem_cons.mp hy with rfl | hy
        · exact h2
        · exact h3 y hy
    · rw [decide_eq_false h, if_neg (by decide)]
      obtain ⟨h1, h2, h3⟩ := ih x
      refine ⟨?_, h2, fun y hy => ?_⟩
      · rcases h1 with h1 | h1
        · exact .inl h1
        · exact .inr (List.mem_cons_of_mem _ h1)
      · rcases List.mem_cons.mp hy with rfl | hy
        · omega
        · exact h3 y hy
theorem hold_ints {h : Heap} : ∀ {ns : List Int} {its : List Value}, Vals (ns.map V.int) its → PySem.W.HoldAll h its ns
  | [], its, r => by cases r; exact ⟨[], .nil⟩
  | n :: ns, its, r => by
    cases r with
    | cons r t =>
      obtain ⟨tk, rfl⟩ := r
      obtain ⟨as, ra⟩ := hold_ints (h := h) t
      exact ⟨_, .cons (.int n tk) ra⟩
section
variable {X : Cx}
def rMaxDf (K : PySem.W.Frag) : List V → List V → Hp → VK → Prop := fun xs zs H Q => ∃ (a : Addr) (ns : List Int) (d : Int), xs = [.ref a] ∧ zs = [.int d] ∧ SqL K H a (ns.map V.int) ∧ (ns = [] → Q (.int d) H) ∧ ∀ m, m ∈ ns → (∀ y ∈ ns, y ≤ m) → Q (.int m) H
theorem cr_maxDf (hc : X.calm = true) (hu : X.A.units + 1 < cLine) : CallRK X (.builtin "max") ["default"] (rMaxDf X.K) := by
  intro pins s σ H xs zs us ws Q I r1 r2 h
  obtain ⟨a, ns, d, rfl, rfl, hs, h0, h1⟩ := h
  obtain ⟨its, rv, hl, _⟩ := I.list hs
  rw [Vals.ref1 r1]
  obtain ⟨w, rfl, t, rfl⟩ := vals1 r2
  refine PySem.W.max_list_datum_default (α := Int) (I.ok.hd hc) hl.isList (hold_ints rv) hu (fun e h' tk k => ⟨.int d, H, I.kept k, ⟨t, rfl⟩, h0 e⟩) fun y ys i v h' tk e hi hv k => ?_
  obtain ⟨as, rd⟩ := hv
  obtain ⟨g1, g2, g3⟩ := maxOf_in ys y
  cases rd with
  | int n tk2 =>
    subst e
    refine ⟨.int _, H, I.kept k, ⟨tk2, rfl⟩, h1 _ ?_ ?_⟩
    · rcases g1 with g1 | g1
      · rw [g1]; exact List.mem_cons_self
      · exact List.mem_cons_of_mem _ g1
    · intro z hz
      rcases List.mem_cons.mp hz with rfl | hz
      · exact g2
      · exact g3 z hz
/-! list(d.values()) -/
def tListVals (te : TE) : TE := fun σ H Q => te σ H fun x H1 => ∃ (d : Addr) (kvs : List (Key × V)), x = .ref d ∧ H1 d = some (.dK kvs) ∧ ∀ p, H1 p = none → Q (.ref p) (upd H1 p (.lst (kvs.map (·.2))))
variable {e : Expr} {te : TE} {p apos cpos pos : Pos}
theorem kv_vals {kvs : List (Key × V)} {vs : List (Key × Value)} (r : KV kvs vs) : ∀ {l : List Value}, l.length = vs.length → (∀ (j : Nat) (v : Value), l[j]? = some v → ∃ k, vs[j]? = some (k, v)) → Vals (kvs.map (·.2)) l := by
  unfold KV at r
  induction r with
  | nil => intro l hl _; rw [List.length_eq_zero_iff.mp hl]; exact .nil
  | @cons a b as bs hr t ih =>
    intro l hl hv
    cases l with
    | nil => cases hl
    | cons v l =>
      obtain ⟨k, e0⟩ := hv 0 v rfl
      have e1 := Option.some.inj (show some b = some (k, v) from e0)
      refine .cons ?_ (ih (Nat.succ.inj hl) fun j u hu => hv (j + 1) u hu)
      have := hr.2
      rw [e1] at this
      exact this
theorem pe_listVals (hc : X.calm = true) (he : PE X e te) (hg : Gl X "list") (hm : X.mg "list" = none) (hv : bootBuiltins "list" = some (.type "list")) (hbase : attributeBase e "values" X.env (eval e X.env) = eval e X.env := by rfl) (hline : (apos.endLine == cpos.line) = true := by rfl)
    (hs : starEach [.Call (.Attribute e "values" apos) [] [] cpos] X.env = (false, eval (.Call (.Attribute e "values" apos) [] [] cpos) X.env) :: starEach [] X.env := by rfl) :
    PE X (.Call (.Name "list" p) [.Call (.Attribute e "values" apos) [] [] cpos] [] pos) (tListVals te) := by
  refine ⟨fun pins s σ H Q I hq => ?_⟩
  refine wpAny_Call_Name_kw (ld_blt I hg hm hv ?_)
  refine PyProof.Rows.callWith_type1 ?_ hs rfl
  rw [hs]
  show wpAny _ _ (spliced ((false, eval (.Call (.Attribute e "values" apos) [] [] cpos) X.env) :: backTo pos (starEach [] X.env))) _ _ s
  refine Calls.spliced_cons ?_
  refine wpAny_Call_method (T := "dict") (id := "dict.values") hbase rfl hline F.plainAttrs_dict F.slot_dict_values F.type_dict_values (thn (he.run pins s σ H _ I hq) fun u s1 ⟨x, H1, I1, rx, d, kvs, ex, hd, q⟩ => ?_)
  subst ex
  obtain rfl : u = Value.ref d := rx
  obtain ⟨hz, hs0, vs, kv, hdo⟩ := I1.hok d _ hd
  have lk : kvs.length = vs.length := Paired.length kv
  have I2 : Inv X pins σ H1 { s1 with heap := s1.heap.push { cls := .type "dict_values", data := .fields #[.ref d] } } := I1.kept (t' := s1.toks) fun b ob q => Heap.get?_push_of_some _ q
  obtain ⟨es, ep, raw, hes, hat⟩ := hdo.raw
  refine ⟨hdo.typeIs, hdo.mapOf.noDict, ?_⟩
  show wpAny _ _ (callWith cpos (.builtin "dict.values") [.ref d] [] []) _ X.xe s1
  refine method_meetsIn F.slot_dict_values F.entry_dict_values rfl (PySem.evalArgs_none ⟨rfl, hdo.typeIs, F.args_dict_values_1 _, _, meets_dict_values (mixKind X.prog X.w) d hs0, ⟨vs, hdo⟩, ?_⟩)
  refine Calls.spliced_nil ?_
  refine PySem.W.kdl_call (KdlSrc.rawValues (r := s1.heap.objs.size) (d := d) (es := es) (ep := ep)) (I1.ok.hd hc) ⟨⟨_, Heap.get?_push_size _ rfl, rfl, rfl⟩, raw.at fun o e => Heap.get?_push_of_some _ e⟩ (by rw [hes]; omega) fun h' tk acc c' hk hD hacc => ?_
  have hvl : Vals (kvs.map (·.2)) acc.toList := by
    refine kv_vals kv (by rw [Array.length_toList, hacc.1, hes]) fun j v hj => ?_
    obtain ⟨hi, e⟩ := hacc.2 j v (by rw [← Array.getElem?_toList]; exact hj)
    have hjv : j < vs.length := by rw [← hes]; exact hi
    have hjj : vs[j]? = some (vs[j].1, vs[j].2) := List.getElem?_eq_getElem hjv
    have := (hat j hi _ _ hjj).2
    exact ⟨vs[j].1, by rw [hjj, e, this]⟩
  exact ⟨.ref _, upd H1 _ (.lst (kvs.map (·.2))), I2.laid (t' := tk) hk (Nat.le_refl _) (show ObjOk X.prog X.w _ _ _ (.lst (kvs.map (·.2))) from ⟨by rw [List.length_map]; exact hz, acc.toList, c', hvl, by rw [Array.toArray_toList]; exact hD⟩), rfl, q _ (I2.hok.fresh (Nat.le_refl _))⟩
end
end LayT
namespace PN
open PySem PySem.Spec PyProof.Rows L2 LayT
structure Dfm (P : Program) (w : World) (K : PySem.W.Frag) (mg : Str → Option Value) (base : Heap) (C : Addr) (m : Str) (k : Nat) (ps : List Str) (sp : Sp) (f : Addr) (fd : FuncData) : Prop where
  ok : FnOk P w K mg base CX0 k f fd ps sp
  meth : Meth K C m f
  b : Binds K fd ps []
theorem fld_no {x y : V} {m : Str} (h1 : (m == ("delays" : Str)) = false) (h2 : (m == ("wires" : Str)) = false) : [(("delays" : Str), x), (("wires" : Str), y)].lookup m = none := by
  simp only [List.lookup, h1, h2]
structure OkPl (t : PL) : Prop where
  nd : t.ks.Nodup
  kl : t.ks.length ≤ 30
  wl : t.ws.length ≤ 60
  ends : ∀ q ∈ t.ws, q.1 ∈ t.ks ∧ q.2.1 ∈ t.ks
  pos : ∀ n ∈ t.ks, 0 ≤ t.d n
  out : ("out" : Str) ∈ t.ks
abbrev out : Str := "out"
def zf (mv : Str → Int) (q : W3) : Bool := decide (regF mv q = 0) && (!decide (q.1 = out) && !decide (q.2.1 = out))
def bh (mv : Str → Int) (ws : List W3) (x : Str) : List Str := (ws.filter fun q => zf mv q && decide (q.2.1 = x)).map (·.1)
def ov : Option Int → V
  | none => .non
  | some i => .int i
theorem bh_snoc {mv : Str → Int} {ws : List W3} {q : W3} {x : Str} : bh mv (ws ++ [q]) x = bh mv ws x ++ if zf mv q = true ∧ q.2.1 = x then [q.1] else [] := by
  unfold bh
  rw [List.filter_append, List.map_append]
  congr 1
  by_cases h : zf mv q = true ∧ q.2.1 = x
  · rw [if_pos h, List.filter_cons_of_pos (by simp [h.1, h.2])]; rfl
  · rw [if_neg h, List.filter_cons_of_neg (by
      intro z
      rw [Bool.and_eq_true, decide_eq_true_eq] at z
      exact h z)]
    rfl
theorem bh_mem {mv : Str → Int} {ws : List W3} {b x : Str} : b ∈ bh mv ws x ↔ Zr ws out mv b x := by
  unfold bh Zr
  rw [List.mem_map]
  constructor
  · rintro ⟨q, hq, rfl⟩
    obtain ⟨h1, h2⟩ := List.mem_filter.mp hq
    rw [Bool.and_eq_true, decide_eq_true_eq] at h2
    have h3 := h2.1
    unfold zf at h3
    rw [Bool.and_eq_true, Bool.and_eq_true, decide_eq_true_eq] at h3
    refine ⟨q, h1, rfl, h2.2, h3.1, by simpa using h3.2.1, ?_⟩
    rw [← h2.2]; simpa using h3.2.2
  · rintro ⟨q, hq, rfl, rfl, h3, h4, h5⟩
    refine ⟨q, List.mem_filter.mpr ⟨hq, ?_⟩, rfl⟩
    rw [Bool.and_eq_true, decide_eq_true_eq]
    refine ⟨?_, rfl⟩
    unfold zf
    rw [decide_eq_true (show regF mv q = 0 from h3), decide_eq_false h4, decide_eq_false h5]
    rfl
theorem bh_len {mv : Str → Int} {ws : List W3} {x : Str} : (bh mv ws x).length ≤ ws.length := by
  unfold bh
  rw [List.length_map]
  exact List.length_filter_le _ _
section
variable {P : Program} {w : World} {K : PySem.W.Frag} {mg : Str → Option Value} {base : Heap} {C : Addr}
theorem RlAt.rd {H0 G : Hp} {kvs : List (Key × V)} {keys : List Str} {ls : List Addr} {F : Str → List Str} (h : RlAt H0 G kvs keys ls F) : RdAt G kvs keys F := by
  refine ⟨h.keys_eq, fun i n v hi hv => ?_⟩
  have hil : i < ls.length := by rw [h.len]; exact (List.getElem?_eq_some_iff.mp hi).1
  have hz : (keys.zip ls)[i]? = some (n, ls[i]) := List.getElem?_zip_eq_some.mpr ⟨hi, List.getElem?_eq_getElem hil⟩
  rw [h.ek, List.map_map, List.getElem?_map, hz] at hv
  have e : v = .ref ls[i] := (Option.some.inj hv).symm
  exact ⟨ls[i], e, h.at_ i n _ hi (List.getElem?_eq_getElem hil)⟩
theorem kN_vals {keys : List Str} {wf : Str → Int} : (kN keys wf).map (·.2) = (keys.map wf).map V.int := by
  unfold kN
  rw [List.map_map, List.map_map]; rfl
def spBeat (C : Addr) : Sp := fun vs H Q _ => ∃ (p m : Addr) (t : PL) (mv : Str → Int), vs = [.ref p, .ref m] ∧ PlAt C H p t ∧ OkPl t ∧ MvAt H m mv ∧ ∀ r H', Same H H' → BeatIs t.ks t.d t.ws out mv r → Q (ov r) H'
abbrev nBeat : List Str := ["self", "moves", "told", "behind", "at", "begin", "to", "_", "ordered", "sums", "gate"]
theorem scBeat : FnScope nBeat ["self", "moves"] (defScope sBeat) := ⟨rfl, rfl, rfl, by decide +kernel, rfl, by decide +kernel, by decide +kernel⟩
theorem ok_beat {fR fO f : Addr} {fdR fdO fd : FuncData} (F : Fun K "beat" "Plan.beat" sBeat f fd) (T : Txt K mg) (TP : TxtP K mg C) (DR : Dfm P w K mg base C "registers" 1 ["self", "moves"] (spRegs C) fR fdR) (DO : Dfn P w K mg base "order_of" 1 ["reads"] spOrd fO fdO) : FnOk P w K mg base CX0 2 f fd ["self", "moves"] (spBeat C) := by
  refine F.ok scBeat (fun vs H Q E h => ?_) (fun cdv A outer s H vs Q E hr h => ?_)
  · obtain ⟨p, m, t, mv, rfl, _⟩ := h
    rfl
  obtain ⟨p, m, t, mv, rfl, hp, okp, hm, k⟩ := h
  have nd := scBeat.nd
  have hu := hu_of hr
  refine ⟨_, pss_cons (ps_set (i := 2) nd rfl (.inl rfl) (pe_meth (pv 0) TP.cl DR.meth DR.ok hr DR.b .nil pass0 (pa_cons (pv 1) pa_nil)))
    (Evl.pss_cut (ps_if (PW.pt (pw_and (pt_truth (pv 2) (by intro _; rfl)) (pw_and1 (pt_cmpR op_lt (pe_callB (cr_min rfl) (by rfl) T.min (by decide +kernel) (pa_cons (pv 2) pa_nil)) pe_int (nomark _))))) (pss_one (ps_ret pe_non)) pss_nil)
    (Evl.pss_cut (ps_lock (ps_setDc (i := 3) (own := [("gate", 10)]) (g := gName 10) (by rfl) nd rfl rfl (sw_trueD rfl rfl rfl (by decide +kernel)) (pi_keys (pe_fld (pv 0) rfl)) (blkOk_by (N := nBeat) (sc := defScope sBeat) (by decide +kernel))
        (fun _ _ _ _ _ => pg_name (i := 10) nd rfl (.inl rfl)) (fun _ _ _ _ _ => pts_nil) (fun _ _ _ _ _ => pv 10) (fun _ _ _ _ _ => plst pa_nil)))
    (Evl.pss_cut (ps_for PassesOwn.never rfl (pi_enumT (by rfl) T.enumerate (pa_cons (pe_fld (pv 0) rfl) pa_nil)) (pgN4 K 4 5 6 7 nd)
      (pss_one (ps_if (PW.pt (pw_and (pt_cmpR op_eq (pe_ix (ixL K) (pv 2) (pv 4) (fun _ _ => rfl)) pe_int (nomark _)) (pw_and (pt_cmpR op_ne (pv 5) (pgl T.O) (nomark _)) (pw_and1 (pt_cmpR op_ne (pv 6) (pgl T.O) (nomark _))))))
        (pss_one (ps_expr (pe_bm PySem.F.plainAttrs_list PySem.F.slot_list_append PySem.F.type_list_append mt_append (pe_dget hu (pv 3) (pv 6) (fun _ _ => rfl)) (pa_cons (pv 5) pa_nil)))) pss_nil)))
    (pss_cons (ps_set (i := 8) nd rfl (.inl rfl) (pcl DO hr (pa_cons (pv 3) pa_nil)))
    (pss_cons (ps_if (pt_cmpR op_lt (pe_callB call_len_seq (by rfl) T.len PySem.boot_len (pa_cons (pv 8) pa_nil)) (pe_callB call_lenD (by rfl) T.len PySem.boot_len (pa_cons (pv 3) pa_nil)) (nomark _)) (pss_one (ps_ret pe_non)) pss_nil)
    (pss_cons (ps_set (i := 9) nd rfl (.inr rfl) pe_dnewK)
    (pss_cons (ps_for PassesOwn.never rfl (pi_list (pv 8)) (pg_name (i := 10) nd rfl (.inl rfl))
      (pss_one (ps_dput hu (pv 9) (pv 10) (pe_op op_add (pe_dget hu (pe_fld (pv 0) rfl) (pv 10) (fun _ _ => rfl)) (pe_callBK (cr_maxDf rfl hu) (by rfl) T.max (by decide +kernel) (pa_cons
          (pe_lc (own := [("begin", 5)]) (g := gName 5) (by rfl) nd (pi_list (pe_dget hu (pv 3) (pv 10) (fun _ _ => rfl))) (blkOk_by (N := nBeat) (sc := defScope sBeat) (by decide +kernel))
            (fun _ _ _ _ _ => pg_name (i := 5) nd rfl (.inl rfl)) (fun _ _ _ _ _ => pts_nil) (fun _ _ _ _ _ => pe_dget hu (pv 9) (pv 5) (fun _ _ => rfl))) pa_nil) (pk_cons pe_int pk_nil))) rfl)))
    (pss_one (ps_ret (pe_callB (cr_max rfl) (by rfl) T.max (by decide +kernel) (pa_cons (pe_listVals (by rfl) (pv 9) (by rfl) T.list (by decide +kernel)) pa_nil))))))))))), ?_⟩
  obtain ⟨dx, da, wa, xs, h1, h2, h3, h4⟩ := id hp
  have nR : [(("delays" : Str), V.ref da), (("wires" : Str), V.ref wa)].lookup ("registers" : Str) = none := fld_no (by decide +kernel) (by decide +kernel)
  have hwl := okp.wl
  have hkl := okp.kl
  have hZk : ∀ b n, Zr t.ws out mv b n → b ∈ bh mv t.ws n ∧ b ∈ t.ks ∧ n ∈ t.ks := fun b n z => by
    refine ⟨bh_mem.mpr z, ?_⟩
    obtain ⟨q, hq, rfl, rfl, _⟩ := z
    exact okp.ends q hq
  refine ⟨_, rfl, p, dx, _, rfl, h1, nR, _, rfl, p, m, t, mv, rfl, hp, by omega, hm, fun r H1 s1 nr hr1 => ?_⟩
  have hr1' : H1 r = some (.lst ((t.ws.map fun q => regF mv q).map V.int)) := by rw [hr1, List.map_map]; rfl
  refine ⟨fun σ' G => σ' = [some (.ref p), some (.ref m), some (.ref r), none, none, none, none, none, none, none, none] ∧ G = H1 ∧ ∀ q ∈ t.ws, 0 ≤ rg mv q, ?_, ?_⟩
  · refine ⟨_, rfl, !(t.ws.map fun q => V.int (regF mv q)).isEmpty, .inl ⟨_, SqL.of hr1, by cases (t.ws.map fun q => V.int (regF mv q)) <;> rfl⟩, ?_⟩
    by_cases he : t.ws = []
    · rw [he]
      exact iteF (iteF ⟨rfl, rfl, fun q hq => by cases hq⟩)
    · have e1 : (!(t.ws.map fun q => V.int (regF mv q)).isEmpty) = true := by
        cases hh : t.ws with
        | nil => exact absurd hh he
        | cons a b => rfl
      rw [e1]
      refine iteT ⟨_, rfl, r, _, rfl, SqL.of hr1', ?_, fun mm hmm hle => ⟨_, _, rfl, rfl, _, rfl, ?_⟩⟩
      · rw [List.length_map]; exact List.length_pos_iff.mpr he
      obtain ⟨q0, hq0, eq0⟩ := List.mem_map.mp hmm
      by_cases hneg : mm < 0
      · rw [decide_eq_true hneg]
        exact iteT (k none H1 s1 (.inl ⟨q0, hq0, by rw [show rg mv q0 = mm from eq0]; exact hneg⟩))
      · rw [decide_eq_false hneg]
        refine iteF ⟨rfl, rfl, fun q hq => ?_⟩
        have := hle _ (List.mem_map.mpr ⟨q, hq, rfl⟩)
        have e2 : rg mv q = regF mv q := rfl
        omega
  rintro σ' G ⟨rfl, rfl, hpos⟩
  -- behind
  have h1' := s1 _ _ h1
  have h2' := s1 _ _ h2
  have h3' := s1 _ _ h3
  have h4' : Al (WAt G) xs t.ws := h4.mono fun _ _ z => z.tups s1.tups
  have hkd : (kN t.ks t.d).map (·.1) = t.ks.map (fun x => (Sum.inr x : Key)) := by unfold kN; rw [List.map_map]; rfl
  refine ⟨fun σ' G2 => ∃ D1 kvs1 ls, σ' = [some (.ref p), some (.ref m), some (.ref r), some (.ref D1), none, none, none, none, none, none, none] ∧ Same G G2 ∧ G D1 = none ∧ G2 D1 = some (.dK kvs1) ∧ RlAt G G2 kvs1 t.ks ls (fun _ => []), ?_, ?_⟩
  · refine ⟨da, _, h2', True.intro, fun od => ?_⟩
    have hf : upd G da (.frz od (.dK (kN t.ks t.d))) da = some (.frz od (.dK (kN t.ks t.d))) := upd_same
    have hun : ∀ {H2 : Hp}, Same (upd G da (.frz od (.dK (kN t.ks t.d)))) H2 → Same G (upd H2 da (.dK (kN t.ks t.d))) := fun s2 => unlock h2' s2
    have hfn : ∀ {l : Addr}, upd G da (.frz od (.dK (kN t.ks t.d))) l = none → G l = none := fun {l} e => by
      by_cases z : l = da
      · rw [z, upd_same] at e; cases e
      · rw [upd_ne z] at e; exact e
    have hpf : upd G da (.frz od (.dK (kN t.ks t.d))) p = some (.ins C dx [(("delays" : Str), V.ref da), (("wires" : Str), V.ref wa)]) := by
      rw [upd_ne (fun z => by rw [z, h2'] at h1'; cases h1')]; exact h1'
    generalize upd G da (.frz od (.dK (kN t.ks t.d))) = Hf at hf hun hfn hpf ⊢
    refine ⟨_, rfl, p, C, dx, _, _, rfl, hpf, TP.cl, TP.nD, fld_d, da, od, rfl, .inl ⟨_, hf, fun c nc => dc_it (walk_keys (d := da) (o := od) (kvs := kN t.ks t.d)) (fun j G2 => Same Hf G2 ∧ ∃ kj ls, G2 c = some (.dK kj) ∧ RlAt Hf G2 kj (t.ks.take j) ls (fun _ => []))
      ⟨same_upd nc, [], [], upd_same, rfl, rfl, List.nodup_nil, (fun l h => by cases h), (fun i n l h => by simp at h)⟩ (fun j G2 _ hh => hh.1 _ _ hf) ?_ ?_⟩⟩
    · rintro j y G2 G3 hj ⟨sG, kj, ls, gc, hR⟩ ⟨rfl, ky, vy, hky, rfl⟩
      have hn : ∃ n, t.ks[j]? = some n ∧ ky = Sum.inr n := by
        unfold kN at hky
        rw [List.getElem?_map] at hky
        obtain ⟨n, hn, e⟩ := Option.map_eq_some_iff.mp hky
        cases e
        exact ⟨n, hn, rfl⟩
      obtain ⟨n, hn, rfl⟩ := hn
      refine ⟨rfl, _, rfl, rd_l0 fun q G4 nq s2 hq => ?_⟩
      have gc2 := s2 _ _ gc
      have hkj := hR.keys_eq
      have hlen : kj.length ≤ 60 := by
        have := congrArg List.length hkj
        rw [List.length_map, List.length_map, List.length_take] at this
        omega
      have hnn := nodup_take_not okp.nd hn
      refine ⟨kj, Sum.inr n, rfl, gc2, szl (by omega), (sG.trans s2).mut nc, _, ls ++ [q], upd_same, ?_⟩
      rw [putK_new _ (no_key hkj hnn), take_succ_at hn]
      exact (hR.snoc s2 (none_back2 sG nq) nq hq).updK gc2
    · rintro G2 ⟨sG, kj, ls, gc, hR⟩
      rw [kN_len, List.take_length] at hR
      have hca : c ≠ da := fun z => by rw [z, hf] at nc; cases nc
      have ga := sG _ _ hf
      exact ⟨ga, c, kj, ls, rfl, hun sG, hfn nc, by rw [upd_ne hca]; exact gc, (hR.base fun _ => hfn).updF ga⟩
  rintro σ' G2 ⟨D1, kvs1, ls, rfl, s2, nD1, gD1, hR0⟩
  refine ⟨fun σ' G3 => ∃ o4 o5 o6 o7, σ' = [some (.ref p), some (.ref m), some (.ref r), some (.ref D1), o4, o5, o6, o7, none, none, none] ∧ Same G G3 ∧ G3 D1 = some (.dK kvs1) ∧ RlAt G G3 kvs1 t.ks ls (bh mv t.ws), ?_, ?_⟩
  · refine ⟨_, rfl, p, C, dx, _, _, rfl, s2 _ _ h1', TP.cl, TP.nW, fld_w, wa, xs, rfl, SqT.of (s2 _ _ h3'), for_it (walk_enumT (K := K) (a := wa) (xs := xs)) (fun j σ' G3 => ∃ o4 o5 o6 o7, σ' = [some (.ref p), some (.ref m), some (.ref r), some (.ref D1), o4, o5, o6, o7, none, none, none] ∧ Same G G3 ∧ G3 D1 = some (.dK kvs1) ∧ RlAt G G3 kvs1 t.ks ls (bh mv (t.ws.take j)))
      ⟨_, _, _, _, rfl, s2, gD1, hR0⟩ (fun j σ' G3 _ hh => by obtain ⟨_, _, _, _, _, h, _⟩ := hh; exact SqT.of (h _ _ h3')) ?_ ?_⟩
    · rintro j y σ' G3 G4 hj ⟨o4, o5, o6, o7, rfl, s3, g3, hR⟩ ⟨Tt, x1, x2, rfl, nT, rfl, e1, e2⟩
      cases e1
      obtain ⟨q, hq, aq, rfl, haq⟩ := h4'.at e2
      have hqm := List.mem_of_getElem? hq
      have sT := same_upd (o := HO.tup [V.int (j : Nat), V.ref aq]) nT
      have s4 := s3.trans sT
      have hR4 := hR.same sT
      have g4 := sT _ _ g3
      have hTt : upd G3 Tt (.tup [V.int (j : Nat), V.ref aq]) Tt = some (.tup [V.int (j : Nat), V.ref aq]) := upd_same
      generalize upd G3 Tt (.tup [V.int (j : Nat), V.ref aq]) = G4 at s4 hR4 g4 hTt ⊢
      have hrat : (t.ws.map fun q => V.int (regF mv q))[j]? = some (.int (regF mv q)) := by rw [List.getElem?_map, hq]; rfl
      refine ⟨Tt, _, rfl, SqT.of hTt, rfl, _, _, rfl, _, _, rfl, aq, _, rfl, SqT.of (s4 _ _ haq), rfl, _, _, rfl, _, _, rfl, _, _, rfl, rfl, rfl, ?_⟩
      have fin0 : zf mv q = false → ∃ o4 o5 o6 o7, ([some (.ref p), some (.ref m), some (.ref r), some (.ref D1), some (.int (j : Nat)), some (.str q.1), some (.str q.2.1), some (.int q.2.2), none, none, none] : L2.St) = [some (.ref p), some (.ref m), some (.ref r), some (.ref D1), o4, o5, o6, o7, none, none, none] ∧
          Same G G4 ∧ G4 D1 = some (.dK kvs1) ∧ RlAt G G4 kvs1 t.ks ls (bh mv (t.ws.take (j + 1))) := fun hz => by
        refine ⟨_, _, _, _, rfl, s4, g4, hR4.congr fun x _ => ?_⟩
        rw [take_succ_at hq, bh_snoc, if_neg (fun z => by rw [hz] at z; cases z.1), List.append_nil]
      refine ⟨_, rfl, _, rfl, r, _, (j : Int), _, rfl, rfl, SqL.of (s4 _ _ hr1), atI_nat hrat, rfl, _, rfl, ?_⟩
      rw [dec_int]
      by_cases z1 : regF mv q = 0
      case neg =>
        rw [decide_eq_false z1]
        exact iteF (iteF (fin0 (by unfold zf; rw [decide_eq_false z1]; rfl)))
      rw [decide_eq_true z1]
      refine iteT ⟨_, rfl, rfl, !decide (q.1 = out), congrArg V.bl ?_, ?_⟩
      · by_cases c : q.1 = out
        · simp [c]
        · have : V.str q.1 ≠ V.str out := fun z => c (V.str.inj z)
          simp [c]
      by_cases z2 : q.1 = out
      case pos =>
        rw [decide_eq_true z2]
        exact iteF (iteF (fin0 (by unfold zf; rw [decide_eq_true z2, Bool.not_true, Bool.false_and, Bool.and_false])))
      rw [decide_eq_false z2]
      refine iteT ⟨_, rfl, rfl, !decide (q.2.1 = out), congrArg V.bl ?_, ?_⟩
      · by_cases c : q.2.1 = out
        · simp [c]
        · have : V.str q.2.1 ≠ V.str out := fun z => c (V.str.inj z)
          simp [c]
      by_cases z3 : q.2.1 = out
      case pos =>
        rw [decide_eq_true z3]
        exact iteF (fin0 (by unfold zf; rw [decide_eq_true z3, Bool.not_true, Bool.and_false, Bool.and_false]))
      rw [decide_eq_false z3]
      refine iteT ?_
      have hz : zf mv q = true := by unfold zf; rw [decide_eq_true z1, decide_eq_false z2, decide_eq_false z3]; rfl
      obtain ⟨hq1k, hq2k⟩ := okp.ends q hqm
      obtain ⟨i0, hi0⟩ := List.mem_iff_getElem?.mp hq2k
      obtain ⟨l2, hl2, hv2, gl2⟩ := hR4.get okp.nd hi0
      have hl2m := List.mem_of_getElem? hl2
      have hl2G := hR4.fr l2 hl2m
      have dg2 : DGet G4 D1 (.str q.2.1) (some (.ref l2)) := by
        rw [← hv2]
        exact .inl ⟨kvs1, Sum.inr q.2.1, .inl g4, rfl, rfl⟩
      have hFl : ((bh mv (t.ws.take j) q.2.1).map V.str).length < sizeLine := by
        have := bh_len (mv := mv) (ws := t.ws.take j) (x := q.2.1)
        rw [List.length_take] at this
        rw [List.length_map]
        exact szl (by omega)
      refine ⟨_, rfl, _, rfl, D1, .ref l2, rfl, dg2, .inl ⟨rfl, _, SqL.of gl2⟩, _, rfl, l2, _, _, rfl, rfl, gl2, hFl, ?_⟩
      refine ⟨_, _, _, _, rfl, s4.mut hl2G, ?_, hR4.push okp.nd hi0 hl2 (fun x' hx' => ?_)⟩
      · rw [upd_ne (fun z => by rw [z, gl2] at g4; cases g4)]; exact g4
      · rw [take_succ_at hq, bh_snoc]
        by_cases e : x' = q.2.1
        · rw [if_pos ⟨hz, e.symm⟩, if_pos e]
        · rw [if_neg (fun z => e z.2.symm), if_neg e, List.append_nil]
    · rintro σ' G3 ⟨o4, o5, o6, o7, rfl, s3, g3, hR⟩
      rw [h4'.1, List.take_length] at hR
      exact ⟨_, _, _, _, rfl, s3, g3, hR⟩
  rintro σ' G3 ⟨o4, o5, o6, o7, rfl, s3, g3, hR⟩
  refine ⟨_, rfl, D1, kvs1, t.ks, bh mv t.ws, rfl, g3, hR.rd, okp.nd, by omega, (fun n _ => Nat.le_trans bh_len hwl), fun ro G4 o s4 nro hro hok => ?_⟩
  have g4 := s4 _ _ g3
  have hR4 := hR.same s4
  have hkl1 : kvs1.length = t.ks.length := hR.rd.len
  have s04 : Same H G4 := (s1.trans s3).trans s4
  refine ⟨_, rfl, ro, _, rfl, .inl (SqL.of hro), _, rfl, D1, kvs1, rfl, g4, _, _, rfl, rfl, _, rfl, ?_⟩
  by_cases hlt : o.length < t.ks.length
  · rw [decide_eq_true (show ((o.map V.str).length : Int) < (kvs1.length : Int) by rw [List.length_map]; omega)]
    exact iteT (k none G4 s04 (.inr (ord_ring hok hlt okp.nd fun b n hb _ => bh_mem.mp hb)))
  rw [decide_eq_false (show ¬ ((o.map V.str).length : Int) < (kvs1.length : Int) by rw [List.length_map]; omega)]
  refine iteF ?_
  have hall := ord_all hok hlt
  intro D9 nD9
  have s5 := same_upd (o := HO.dK []) nD9
  have g95 : upd G4 D9 (.dK []) D9 = some (.dK []) := upd_same
  generalize upd G4 D9 (.dK []) = G5 at s5 g95
  refine ⟨_, rfl, ro, rfl, ⟨_, SqL.of (s5 _ _ hro)⟩, for_it (walk_list (K := K) (a := ro) (xs := o.map V.str)) (fun i σ' G6 => ∃ (S : Str → Int) (o5 o10 : Option V), σ' = [some (.ref p), some (.ref m), some (.ref r), some (.ref D1), o4, o5, o6, o7, some (.ref ro), some (.ref D9), o10] ∧ Same G4 G6 ∧
      G6 D9 = some (.dK (kN (o.take i) S)) ∧ ∀ n ∈ o.take i, LongAt t.d (Zr t.ws out mv) S n)
    ⟨t.d, _, _, rfl, s5, g95, fun n hn => by simp at hn⟩ (fun i σ' G6 _ hh => by obtain ⟨_, _, _, _, h, _⟩ := hh; exact SqL.of (h _ _ hro)) ?_ ?_⟩
  · rintro i y σ' G6 G7 hi ⟨S, o5, o10, rfl, s6, g9, hS⟩ ⟨eH, ey⟩
    obtain rfl : G6 = G7 := eH.symm
    obtain ⟨n, hn, rfl⟩ := map_at ey
    have hnk := hok.2.1 n (List.mem_of_getElem? hn)
    have hnt := nodup_take_not hok.1 hn
    have hol : o.length ≤ 60 := by
      have := nodup_le o t.ks hok.1 hok.2.1
      omega
    have hio : i < o.length := (List.getElem?_eq_some_iff.mp hn).1
    obtain ⟨i0, hi0⟩ := List.mem_iff_getElem?.mp hnk
    obtain ⟨l2, hl2, hv2, gl2⟩ := hR4.get okp.nd hi0
    have hp6 := s6 _ _ (s04 _ _ h1)
    have hd6 := s6 _ _ (s04 _ _ h2)
    have dgd : DGet G6 da (.str n) (some (.int (t.d n))) := by
      rw [← kN_get (wf := t.d) hnk]
      exact .inl ⟨_, Sum.inr n, .inl hd6, rfl, rfl⟩
    have dg1 : DGet G6 D1 (.str n) (some (.ref l2)) := by
      rw [← hv2]
      exact .inl ⟨kvs1, Sum.inr n, .inl (s6 _ _ g4), rfl, rfl⟩
    have gl6 := s6 _ _ gl2
    have hbk : ∀ b ∈ bh mv t.ws n, b ∈ o.take i := fun b hb => hok.2.2.1 i n hn b hb (hZk b n (bh_mem.mp hb)).2.1
    have tail : ∀ (M : Int) (G7 : Hp), Same G6 G7 → (bh mv t.ws n = [] → M = 0) → (bh mv t.ws n ≠ [] → (∃ b ∈ bh mv t.ws n, M = S b) ∧ ∀ b ∈ bh mv t.ws n, S b ≤ M) → ∀ o5 : Option V, ∃ (S' : Str → Int) (o5' o10 : Option V), ([some (.ref p), some (.ref m), some (.ref r), some (.ref D1), o4, o5, o6, o7, some (.ref ro), some (.ref D9), some (.str n)] : L2.St) = [some (.ref p), some (.ref m), some (.ref r), some (.ref D1), o4, o5', o6, o7, some (.ref ro), some (.ref D9), o10] ∧
        Same G4 (upd G7 D9 (.dK (putK (kN (o.take i) S) (Sum.inr n) (.int (t.d n + M))))) ∧ upd G7 D9 (.dK (putK (kN (o.take i) S) (Sum.inr n) (.int (t.d n + M)))) D9 = some (.dK (kN (o.take (i + 1)) S')) ∧ ∀ n ∈ o.take (i + 1), LongAt t.d (Zr t.ws out mv) S' n := fun M G7 s7 m0 m1 o5 => by
      refine ⟨fun x => if x = n then t.d n + M else S x, _, _, rfl, (s6.trans s7).mut nD9, ?_, long_snoc hok (fun b n => ⟨fun z => ⟨(hZk b n z).1, (hZk b n z).2.2⟩, fun z => bh_mem.mp z.1⟩) (fun n _ b hb => (hZk b n (bh_mem.mp hb)).2.1) okp.pos hS hn m0 m1⟩
      rw [upd_same, kN_congr (wf := S) (wf' := fun x => if x = n then t.d n + M else S x) (fun x hx => by
        have hxn : x ≠ n := fun z => by subst z; exact hnt hx
        rw [if_neg hxn]), kN_new hnt (by rw [if_pos rfl]), take_succ_at hn]
    have hsz : (kN (o.take i) S).length < sizeLine := by rw [kN_len, List.length_take]; exact szl (by omega)
    refine ⟨_, rfl, p, C, dx, _, _, rfl, hp6, TP.cl, TP.nD, fld_d, _, rfl, da, _, rfl, dgd, ?_⟩
    refine ⟨_, rfl, _, rfl, D1, .ref l2, rfl, dg1, l2, rfl, ⟨_, SqL.of gl6⟩, fun c nc => lc_it (walk_list (K := K) (a := l2) (xs := (bh mv t.ws n).map V.str)) (fun j G7 => Same G6 G7 ∧ G7 c = some (.lst (((bh mv t.ws n).take j).map fun b => V.int (S b)))) ⟨same_upd nc, upd_same⟩ (fun j G7 _ hh => SqL.of (hh.1 _ _ gl6)) ?_ ?_⟩
    · rintro j y2 G7 G8 hj ⟨s7, gc⟩ ⟨rfl, ey2⟩
      obtain ⟨b, hb, rfl⟩ := map_at ey2
      have dg9 : DGet G8 D9 (.str b) (some (.int (S b))) := by
        rw [← kN_get (wf := S) (hbk b (List.mem_of_getElem? hb))]
        exact .inl ⟨_, Sum.inr b, .inl (s7 _ _ g9), rfl, rfl⟩
      refine ⟨rfl, _, rfl, _, rfl, D9, .int (S b), rfl, dg9, _, gc, ?_, s7.mut nc, ?_⟩
      · have := bh_len (mv := mv) (ws := t.ws) (x := n)
        rw [List.length_map, List.length_take]
        exact szl (by omega)
      · rw [upd_same, map_take_succ hb]
    · rintro G7 ⟨s7, gc⟩
      rw [List.length_map, List.take_length] at gc
      have gc' : G7 c = some (.lst (((bh mv t.ws n).map S).map V.int)) := by rw [gc, List.map_map]; rfl
      refine ⟨c, (bh mv t.ws n).map S, 0, rfl, rfl, SqL.of gc', fun e0 => ?_, fun M hM hle => ?_⟩
      · have e0' : bh mv t.ws n = [] := List.map_eq_nil_iff.mp e0
        exact ⟨_, _, rfl, rfl, _, rfl, _, rfl, D9, _, rfl, DPut.k (k := Sum.inr n) (s7 _ _ g9) hsz, tail 0 G7 s7 (fun _ => rfl) (fun z => absurd e0' z) _⟩
      · obtain ⟨b, hb, eb⟩ := List.mem_map.mp hM
        exact ⟨_, _, rfl, rfl, _, rfl, _, rfl, D9, _, rfl, DPut.k (k := Sum.inr n) (s7 _ _ g9) hsz, tail M G7 s7 (fun z => by rw [z] at hb; cases hb) (fun _ => ⟨⟨b, hb, eb.symm⟩, fun b' hb' => hle _ (List.mem_map.mpr ⟨b', hb', rfl⟩)⟩) _⟩
  · rintro σ' G6 ⟨S, o5, o10, rfl, s6, g9, hS⟩
    rw [List.length_map, List.take_length] at g9 hS
    refine ⟨_, rfl, D9, _, rfl, g9, fun pl npl => ?_⟩
    rw [kN_vals]
    have hone : out ∈ o := hall _ okp.out
    refine ⟨pl, o.map S, rfl, SqL.of upd_same, ?_, fun mm hmm hle => ?_⟩
    · rw [List.length_map]; exact List.length_pos_of_mem hone
    obtain ⟨n0, hn0, e0⟩ := List.mem_map.mp hmm
    refine k (some mm) _ ((s04.trans s6).trans (same_upd npl)) ⟨hpos, S, fun n => o.idxOf n, fun n hn => hS n (hall n hn), ord_rank hok hall hZk, fun n hn => hle _ (List.mem_map.mpr ⟨n, hall n hn, rfl⟩), n0, hok.2.1 n0 hn0, e0⟩
end
end PN
namespace PN
open PySem PySem.Spec PyProof.Rows L2 LayT
structure ErrC (K : PySem.W.Frag) (mg : Str → Option Value) (x : Str) (C : Addr) : Prop where
  q : PySem.W.excIn K C [.type "ValueError", .type "Exception", .type "BaseException", .type "object"] "ValueError.__new__" = true
  g : mg x = some (.ref C)
  k : PySem.W.keepIn K (.ref C) = true
  b : PySem.W.subIn K (.ref C) (.type "BaseException") = some true
  t : PySem.W.typeIn K (.ref C) = some (.type "type")
/-! ### what delays tell -/
def dI : D → Int
  | .int i => i
  | _ => 0
def nms (dl : List (Str × D)) : List Str := dl.map (·.1)
def nmO (dl : List (Str × D)) : List Str := if out ∈ nms dl then nms dl else nms dl ++ [out]
def dO (dl : List (Str × D)) (n : Str) : Int := if n = out then 0 else match dl.find? (fun p => decide (p.1 = n)) with
  | some p => dI p.2
  | none => 0
def wD (q : W3) : D := .tup [.str q.1, .str q.2.1, .int q.2.2]
def gsO (dl : List (Str × D)) (x : Str) : Bool := decide (x ∈ nmO dl)
theorem find_at {dl : List (Str × D)} : ∀ {i : Nat} {g : Str} {d : D}, (dl.map (·.1)).Nodup → dl[i]? = some (g, d) → dl.find? (fun p => decide (p.1 = g)) = some (g, d) := by
  induction dl with
  | nil => intro i g d _ h; simp at h
  | cons p dl ih =>
    intro i g d nd h
    rw [List.map_cons, List.nodup_cons] at nd
    cases i with
    | zero => simp at h; subst h; simp
    | succ i =>
      have h' : dl[i]? = some (g, d) := by simpa using h
      have hm : g ∈ dl.map (·.1) := List.mem_map.mpr ⟨(g, d), List.mem_of_getElem? h', rfl⟩
      rw [List.find?_cons_of_neg (by simp; intro e; exact nd.1 (by rw [e]; exact hm))]
      exact ih nd.2 h'
theorem del_row {dl : List (Str × D)} (ha : areDel (some dl) = true) {p : Str × D} (h : p ∈ dl) : ∃ i, p.2 = .int i ∧ 0 ≤ i ∧ i ≤ topD p.1 := by
  have h1 : (decide (1 ≤ dl.length) && (decide (dl.length ≤ 12) && dl.all fun p => isWrd (.str p.1) && isDel p.1 p.2)) = true := ha
  rw [Bool.and_eq_true, Bool.and_eq_true, List.all_eq_true] at h1
  have h2 := h1.2.2 p h
  rw [Bool.and_eq_true] at h2
  cases e : p.2 with
  | int i =>
    rw [e] at h2
    have h3 : (decide (0 ≤ i) && decide (i ≤ topD p.1)) = true := h2.2
    rw [Bool.and_eq_true, decide_eq_true_eq, decide_eq_true_eq] at h3
    exact ⟨i, rfl, h3.1, h3.2⟩
  | _ => rw [e] at h2; cases h2.2
theorem del_len {dl : List (Str × D)} (ha : areDel (some dl) = true) : 1 ≤ dl.length ∧ dl.length ≤ 12 := by
  have h1 : (decide (1 ≤ dl.length) && (decide (dl.length ≤ 12) && dl.all fun p => isWrd (.str p.1) && isDel p.1 p.2)) = true := ha
  rw [Bool.and_eq_true, Bool.and_eq_true, decide_eq_true_eq, decide_eq_true_eq] at h1
  exact ⟨h1.1, h1.2.1⟩
theorem dO_at {dl : List (Str × D)} (hn : (nms dl).Nodup) (ha : areDel (some dl) = true) {i : Nat} {g : Str} {d : D} (h : dl[i]? = some (g, d)) : d = .int (dO dl g) := by
  obtain ⟨v, e, h0, h1⟩ := del_row ha (List.mem_of_getElem? h)
  dsimp only at e h1
  subst e
  unfold dO
  by_cases ho : g = out
  · subst ho
    rw [if_pos rfl]
    unfold topD at h1
    rw [if_pos rfl] at h1
    congr 1
    omega
  · rw [if_neg ho, find_at hn h]
    rfl
theorem dO_pos {dl : List (Str × D)} (ha : areDel (some dl) = true) (n : Str) : 0 ≤ dO dl n := by
  unfold dO
  split
  · exact Int.le_refl 0
  · split
    · rename_i p h
      obtain ⟨v, e, h0, _⟩ := del_row ha (List.mem_of_find?_eq_some h)
      rw [e]; exact h0
    · exact Int.le_refl 0
theorem del_kN {H : Hp} {kvs : List (Key × V)} {dl : List (Str × D)} (h1 : kvs.map (·.1) = dl.map (fun p => (Sum.inr p.1 : Key))) (h2 : DsAt H (kvs.map (·.2)) (dl.map (·.2))) (hn : (nms dl).Nodup) (ha : areDel (some dl) = true) : kvs = kN (nms dl) (dO dl) := by
  apply List.ext_getElem?
  intro i
  cases e : kvs[i]? with
  | some kv =>
    obtain ⟨ky, v⟩ := kv
    obtain ⟨g, d, hg, rfl, hv⟩ := kd_at h1 h2 e
    have hd := dO_at hn ha hg
    subst hd
    obtain rfl := hv.int
    unfold kN nms
    rw [List.getElem?_map, List.getElem?_map, hg]
    rfl
  | none =>
    have hl : kvs.length = dl.length := by
      have := congrArg List.length h1
      rwa [List.length_map, List.length_map] at this
    rw [List.getElem?_eq_none_iff] at e
    unfold kN nms
    rw [List.getElem?_eq_none_iff.mpr]
    rw [List.length_map, List.length_map]; omega
theorem nmO_nodup {dl : List (Str × D)} (h : (nms dl).Nodup) : (nmO dl).Nodup := by
  unfold nmO
  split
  · exact h
  · rename_i ho
    rw [List.nodup_append]
    refine ⟨h, by simp, ?_⟩
    intro a ha b hb e
    rw [List.mem_singleton.mp hb] at e
    exact ho (e ▸ ha)
theorem nmO_out {dl : List (Str × D)} : out ∈ nmO dl := by
  unfold nmO
  split
  · assumption
  · simp
theorem nmO_len {dl : List (Str × D)} : (nmO dl).length ≤ dl.length + 1 := by
  unfold nmO nms
  split
  · rw [List.length_map]; omega
  · rw [List.length_append, List.length_map, List.length_singleton]; omega
theorem nmO_put {dl : List (Str × D)} : putK (kN (nms dl) (dO dl)) (Sum.inr out : Key) (.int 0) = kN (nmO dl) (dO dl) := by
  have h0 : dO dl out = 0 := by unfold dO; rw [if_pos rfl]
  unfold nmO
  by_cases h : out ∈ nms dl
  · rw [if_pos h, kN_put h]
    apply kN_congr
    intro n _
    by_cases e : n = out
    · rw [if_pos e, e, h0]
    · rw [if_neg e]
  · rw [if_neg h, kN_new h h0]
theorem wires_of {gs : Str → Bool} {ds : List D} (h : areWires gs (some ds) = true) : ds.length ≤ 40 ∧ ∃ ws : List W3, ds = ws.map wD ∧ ∀ q ∈ ws, gs q.1 = true ∧ gs q.2.1 = true ∧ 0 ≤ q.2.2 ∧ q.2.2 ≤ 20 := by
  have h1 : (decide (ds.length ≤ 40) && ds.all (isWire gs)) = true := h
  rw [Bool.and_eq_true, decide_eq_true_eq, List.all_eq_true] at h1
  refine ⟨h1.1, ?_⟩
  have h2 := h1.2
  clear h h1
  induction ds with
  | nil => exact ⟨[], rfl, fun q hq => by cases hq⟩
  | cons d ds ih =>
    obtain ⟨ws, e, hw⟩ := ih fun x hx => h2 x (List.mem_cons_of_mem _ hx)
    have h3 := h2 d List.mem_cons_self
    unfold isWire at h3
    split at h3
    · rename_i a b c
      rw [Bool.and_eq_true, Bool.and_eq_true] at h3
      obtain ⟨⟨ha, hb⟩, hc⟩ := h3
      cases a with
      | str a =>
        cases b with
        | str b =>
          cases c with
          | int c =>
            have hc' : (decide (0 ≤ c) && decide (c ≤ 20)) = true := hc
            rw [Bool.and_eq_true, decide_eq_true_eq, decide_eq_true_eq] at hc'
            refine ⟨(a, b, c) :: ws, by rw [e]; rfl, fun q hq => ?_⟩
            rcases List.mem_cons.mp hq with rfl | hq
            · exact ⟨ha, hb, hc'.1, hc'.2⟩
            · exact hw q hq
          | _ => cases hc
        | _ => cases hb
      | _ => cases ha
    · cases h3
theorem ws_at {H : Hp} : ∀ {ws : List W3} {xs : List V}, DsAt H xs (ws.map wD) → Al (WAt H) xs ws
  | [], xs, h => by rw [h.nil]; exact Al.nil
  | q :: ws, xs, h => by
    obtain ⟨x, r, rfl, hx, hr⟩ := h.cons
    obtain ⟨a, ys, rfl, ha, hy⟩ := (show DAt H x (.tup [.str q.1, .str q.2.1, .int q.2.2]) from hx).tup
    obtain ⟨y1, r1, rfl, g1, hr1⟩ := hy.cons
    obtain ⟨y2, r2, rfl, g2, hr2⟩ := hr1.cons
    obtain ⟨y3, r3, rfl, g3, hr3⟩ := hr2.cons
    obtain rfl := hr3.nil
    obtain rfl := g1.str
    obtain rfl := g2.str
    obtain rfl := g3.int
    have ih := ws_at hr
    have := Al.append (Al.one (R := WAt H) (x := V.ref a) (d := q) ⟨a, rfl, ha⟩) ih
    exact this
theorem pfw {v x : V} : putF "wires" v [(("delays" : Str), x)] = [(("delays" : Str), x), (("wires" : Str), v)] := by
  show (if ("delays" : Str) = "wires" then _ else _) = _
  rw [if_neg (by decide +kernel)]
  rfl
end PN
namespace PN
open PySem PySem.Spec PyProof.Rows L2 LayT
theorem okpl_of {dl : List (Str × D)} {ks : List Str} {ws : List W3} (hn : (nms dl).Nodup) (ha : areDel (some dl) = true) (hp : ks.Perm (nmO dl)) (hw : areWires (gsO dl) (some (ws.map wD)) = true) : OkPl ⟨ks, dO dl, ws⟩ := by
  obtain ⟨hl, ws', e, hh⟩ := wires_of hw
  have e' : ws = ws' := by
    have inj : ∀ a b : W3, wD a = wD b → a = b := fun a b h => by
      obtain ⟨a1, a2, a3⟩ := a
      obtain ⟨b1, b2, b3⟩ := b
      unfold wD at h
      simp at h
      simp [h]
    have : ∀ (l1 l2 : List W3), l1.map wD = l2.map wD → l1 = l2 := by
      intro l1
      induction l1 with
      | nil =>
        intro l2 h
        cases l2 with
        | nil => rfl
        | cons b l2 => cases h
      | cons a l1 ih =>
        intro l2 h
        cases l2 with
        | nil => cases h
        | cons b l2 =>
          rw [List.map_cons, List.map_cons, List.cons.injEq] at h
          rw [inj _ _ h.1, ih _ h.2]
    exact this _ _ e
  subst e'
  rw [List.length_map] at hl
  have hln := (del_len ha).2
  have hlo := nmO_len (dl := dl)
  refine ⟨hp.nodup_iff.mpr (nmO_nodup hn), ?_, ?_, fun q hq => ?_, fun n _ => dO_pos ha n, hp.mem_iff.mpr nmO_out⟩
  · show ks.length ≤ 30
    rw [hp.length_eq]; omega
  · show ws.length ≤ 60
    omega
  · obtain ⟨h1, h2, _⟩ := hh q hq
    exact ⟨hp.mem_iff.mpr (of_decide_eq_true h1), hp.mem_iff.mpr (of_decide_eq_true h2)⟩
theorem WsAt.same {H H' : Hp} {v : V} {y : Option (List D)} (h : WsAt H v y) (s : Same H H') : WsAt H' v y := by
  cases y with
  | none => exact h
  | some ds =>
    obtain ⟨a, xs, h1, h2, h3⟩ := h
    exact ⟨a, xs, h1, h2.imp (s _ _) (s _ _), h3.same s⟩
theorem cr_tupOf {X : Cx} : CallR X (.type "tuple") (fun xs H Q => ∃ p ys, xs = [.ref p] ∧ (H p = some (.lst ys) ∨ H p = some (.tup ys)) ∧ ∀ l H', Same H H' → H' l = some (.tup ys) → (H l = none ∨ l = p) → Q (.ref l) H') := by
  intro pins s σ H xs us Q I r ⟨p, ys, e, h, k⟩
  exact call_tuple_of pins s σ H xs us Q I r ⟨p, ys, e, h.elim (fun a => .inl ⟨SqL.of a, fun l nl => k l _ (same_upd nl) upd_same (.inl nl)⟩) (fun b => .inr ⟨SqT.of b, k p H (Same.refl H) b (.inr rfl)⟩)⟩
section
variable {P : Program} {w : World} {K : PySem.W.Frag} {mg : Str → Option Value} {base : Heap} {C CB : Addr}
def spInit (C CB : Addr) : Sp := fun vs H Q E => ∃ (p dx : Addr) (v1 v2 : V) (x : Option (List (Str × D))) (y : Option (List D)), vs = [.ref p, v1, v2] ∧ H p = some (.ins C dx []) ∧ DelAt H v1 x ∧ okDel x ∧ WsAt H v2 y ∧ (∀ ds, y = some ds → ds.length ≤ 1000) ∧
  ∀ H', But p H H' → (areDel x = false → E (.ref CB) none H') ∧ ∀ dl, x = some dl → areDel x = true → (areWires (gsO dl) y = false → E (.ref CB) none H') ∧
    ∀ ws ks, y = some (ws.map wD) → areWires (gsO dl) y = true → ks.Perm (nmO dl) → sortedS ks = true →
      (BeatIs ks (dO dl) ws out (fun _ => 0) none → E (.ref CB) none H') ∧ ∀ m, BeatIs ks (dO dl) ws out (fun _ => 0) (some m) → PlAt C H' p ⟨ks, dO dl, ws⟩ → Q .non H'
abbrev nInit : List Str := ["self", "delays", "wires", "told", "gate"]
theorem scInit : FnScope nInit ["self", "delays", "wires"] (defScope sInit) := ⟨rfl, rfl, rfl, by decide +kernel, rfl, by decide +kernel, by decide +kernel⟩
theorem ok_init {fA fW fB f : Addr} {fdA fdW fdB fd : FuncData} (F : Fun K "__init__" "Plan.__init__" sInit f fd) (T : Txt K mg) (TP : TxtP K mg C) (TB : ErrC K mg "BadPlan" CB)
    (DA : Dfn P w K mg base "are_delays" 3 ["thing"] spAreD fA fdA) (DW : Dfn P w K mg base "are_wires" 3 ["thing", "gates"] spAreW fW fdW) (DB : Dfm P w K mg base C "beat" 2 ["self", "moves"] (spBeat C) fB fdB) :
    FnOk P w K mg base (L2.CX P w) 4 f fd ["self", "delays", "wires"] (spInit C CB) := by
  refine F.okX scInit (fun vs H Q E h => ?_) (fun cdv A outer s H vs Q E hr h => ?_)
  · obtain ⟨p, dx, v1, v2, x, y, rfl, _⟩ := h
    rfl
  obtain ⟨p, dx, v1, v2, x, y, rfl, hp, hx, hok, hy, hyl, k⟩ := h
  have nd := scInit.nd
  have hu := hu_of hr
  have hr2 : Room 2 _ := hr.mono (by decide)
  refine ⟨_, pss_cons (ps_if (pt_not (pt_val (pcl DA hr (pa_cons (pv 1) pa_nil)))) (pss_one (ps_raise rfl (takes_of rfl rfl rfl rfl) (pmk_own PySem.F.excBase_ValueError TB.q TB.g TB.k (raises_own TB.b TB.t) (by exact rfl)))) pss_nil)
    (Evl.pss_cut (ps_set (i := 3) nd rfl (.inr rfl) (pe_lock (pe_dc (own := [("gate", 4)]) (g := gName 4) (by rfl) nd (pi_keys (pv 1)) (blkOk_by (N := nInit) (sc := defScope sInit) (by decide +kernel))
          (fun _ _ _ _ _ => pg_name (i := 4) nd rfl (.inl rfl)) (fun _ _ _ _ _ => pts_nil) (fun _ _ _ _ _ => pv 4) (fun _ _ _ _ _ => pe_dget hu (pv 1) (pv 4) (fun _ _ => rfl)))))
    (pss_cons (ps_dput hu (pv 3) (pgl T.O) pe_int rfl)
    (pss_cons (ps_if (pt_not (pt_val (pcl DW hr (pa_cons (pv 2) (pa_cons (pv 3) pa_nil))))) (pss_one (ps_raise rfl (takes_of rfl rfl rfl rfl) (pmk_own PySem.F.excBase_ValueError TB.q TB.g TB.k (raises_own TB.b TB.t) (by exact rfl)))) pss_nil)
    (pss_cons (ps_fld (pv 0) (pe_dc (own := [("gate", 4)]) (g := gName 4) (by rfl) nd (pi_list (pe_callB (call_sortedD rfl) (by rfl) T.sorted (by decide +kernel) (pa_cons (pv 3) pa_nil))) (blkOk_by (N := nInit) (sc := defScope sInit) (by decide +kernel))
          (fun _ _ _ _ _ => pg_name (i := 4) nd rfl (.inl rfl)) (fun _ _ _ _ _ => pts_nil) (fun _ _ _ _ _ => pv 4) (fun _ _ _ _ _ => pe_dget hu (pv 3) (pv 4) (fun _ _ => rfl))) rfl)
    (pss_cons (ps_fld (pv 0) (pe_callTy cr_tupOf (by rfl) T.tuple (by decide +kernel) (pa_cons (pv 2) pa_nil)) rfl)
    (pss_one (ps_if (pt_cmpR op_isN (pe_meth (pv 0) TP.cl DB.meth DB.ok hr2 DB.b .nil pass0 (pa_cons (pe_dnewK) pa_nil)) pe_non (nomark _)) (pss_one (ps_raise rfl (takes_of rfl rfl rfl rfl) (pmk_own PySem.F.excBase_ValueError TB.q TB.g TB.k (raises_own TB.b TB.t) (by exact rfl)))) pss_nil))))))), ?_⟩
  refine ⟨_, rfl, v1, x, rfl, hx, hok, fun H1 s1 => ⟨_, rfl, ?_⟩⟩
  cases hA : areDel x with
  | false =>
    exact iteT ((k H1 (s1.but p)).1 hA)
  | true =>
  refine iteF ?_
  cases x with
  | none => cases hA
  | some dl =>
  obtain ⟨hnd, hl1, hsh⟩ := hok
  have hnd' : (nms dl).Nodup := hnd
  obtain ⟨d, kvs, rfl, hd, hk1, hk2⟩ := (show ∃ a kvs, v1 = .ref a ∧ H a = some (.dK kvs) ∧ kvs.map (·.1) = dl.map (fun p => (Sum.inr p.1 : Key)) ∧ DsAt H (kvs.map (·.2)) (dl.map (·.2)) from hx)
  obtain rfl := del_kN hk1 hk2 hnd' hA
  have hln := (del_len hA).2
  have hnl : (nms dl).length = dl.length := List.length_map _
  -- told = {..}
  refine ⟨fun σ' G => ∃ tD, σ' = [some (.ref p), some (.ref d), some v2, some (.ref tD), none] ∧ Same H1 G ∧ H1 tD = none ∧ G tD = some (.dK (kN (nms dl) (dO dl))), ?_, ?_⟩
  · refine ⟨d, _, s1 _ _ hd, True.intro, fun od => ?_⟩
    have hf : upd H1 d (.frz od (.dK (kN (nms dl) (dO dl)))) d = some (.frz od (.dK (kN (nms dl) (dO dl)))) := upd_same
    have hun : ∀ {H2 : Hp}, Same (upd H1 d (.frz od (.dK (kN (nms dl) (dO dl))))) H2 → Same H1 (upd H2 d (.dK (kN (nms dl) (dO dl)))) := fun s2 => unlock (s1 _ _ hd) s2
    have hfn : ∀ {l : Addr}, upd H1 d (.frz od (.dK (kN (nms dl) (dO dl)))) l = none → H1 l = none := fun {l} e => by
      by_cases z : l = d
      · rw [z, upd_same] at e; cases e
      · rw [upd_ne z] at e; exact e
    generalize upd H1 d (.frz od (.dK (kN (nms dl) (dO dl)))) = Hf at hf hun hfn ⊢
    refine ⟨_, rfl, d, od, rfl, .inl ⟨_, hf, fun c nc => dc_it (walk_keys (d := d) (o := od) (kvs := kN (nms dl) (dO dl))) (fun j G2 => Same Hf G2 ∧ G2 c = some (.dK (kN ((nms dl).take j) (dO dl))))
      ⟨same_upd nc, upd_same⟩ (fun j G2 _ hh => hh.1 _ _ hf) ?_ ?_⟩⟩
    · rintro j y G2 G3 hj ⟨sG, gc⟩ ⟨rfl, ky, vy, hky, rfl⟩
      have hn : ∃ n, (nms dl)[j]? = some n ∧ ky = Sum.inr n ∧ vy = .int (dO dl n) := by
        unfold kN at hky
        rw [List.getElem?_map] at hky
        obtain ⟨n, hn, e⟩ := Option.map_eq_some_iff.mp hky
        cases e
        exact ⟨n, hn, rfl, rfl⟩
      obtain ⟨n, hn, rfl, rfl⟩ := hn
      refine ⟨rfl, _, rfl, _, rfl, _, rfl, d, .int (dO dl n), rfl, ?_, ?_⟩
      · rw [← kN_get (wf := dO dl) (List.mem_of_getElem? hn)]
        exact .inl ⟨_, Sum.inr n, .inr ⟨od, sG _ _ hf⟩, rfl, rfl⟩
      refine ⟨_, Sum.inr n, rfl, gc, ?_, sG.mut nc, ?_⟩
      · rw [kN_len, List.length_take]; exact szl (by omega)
      · rw [upd_same, kN_new (nodup_take_not hnd' hn) rfl, take_succ_at hn]
    · rintro G2 ⟨sG, gc⟩
      rw [kN_len, List.take_length] at gc
      have hcd : c ≠ d := fun z => by rw [z, hf] at nc; cases nc
      exact ⟨sG _ _ hf, c, rfl, hun sG, hfn nc, by rw [upd_ne hcd]; exact gc⟩
  rintro σ' G ⟨tD, rfl, sG, ntD, gtD⟩
  have hlo := nmO_len (dl := dl)
  -- told[OUTSIDE] = 0
  refine ⟨_, rfl, tD, _, rfl, DPut.k (k := Sum.inr out) gtD (by rw [kN_len]; exact szl (by omega)), ?_⟩
  rw [nmO_put]
  have sG2 : Same H1 (upd G tD (.dK (kN (nmO dl) (dO dl)))) := sG.mut ntD
  have g2 : upd G tD (.dK (kN (nmO dl) (dO dl))) tD = some (.dK (kN (nmO dl) (dO dl))) := upd_same
  generalize upd G tD (.dK (kN (nmO dl) (dO dl))) = G2 at sG2 g2 ⊢
  have s02 : Same H G2 := s1.trans sG2
  -- the wires
  refine ⟨_, rfl, _, rfl, v2, tD, y, gsO dl, rfl, hy.same s02, hyl, ⟨_, g2, fun x => ?_⟩, fun G3 s3 => ⟨_, rfl, ?_⟩⟩
  · show _ = decide (x ∈ nmO dl)
    refine valV_some_of ?_ x
    unfold kN
    rw [List.map_map]; rfl
  have s03 : Same H G3 := s02.trans s3
  cases hW : areWires (gsO dl) y with
  | false =>
    exact iteT (((k G3 (s03.but p)).2 dl rfl hA).1 hW)
  | true =>
  refine iteF ?_
  cases y with
  | none => cases hW
  | some ds =>
  obtain ⟨hwl, ws, rfl, hws⟩ := wires_of hW
  obtain ⟨ca, xs, rfl, hca, hds⟩ := (show ∃ a xs, v2 = .ref a ∧ (H a = some (.lst xs) ∨ H a = some (.tup xs)) ∧ DsAt H xs (ws.map wD) from hy)
  have hxs := ws_at hds
  -- self.delays = {..}
  have g3 := s3 _ _ g2
  have hp3 := s03 _ _ hp
  have hca3 := hca.imp (s03 _ _) (s03 _ _)
  have hkeys : (kN (nmO dl) (dO dl)).map (·.1) = (nmO dl).map (fun x => (Sum.inr x : Key)) := by unfold kN; rw [List.map_map]; rfl
  refine ⟨_, rfl, tD, _, nmO dl, rfl, .inl g3, hkeys, by omega, fun ks q perm srt nq => ?_⟩
  have hlk : ks.length ≤ 14 := by rw [perm.length_eq]; omega
  have hnk : ks.Nodup := perm.nodup_iff.mpr (nmO_nodup hnd')
  have okp := okpl_of hnd' hA perm hW
  have s4 := same_upd (o := HO.lst (ks.map V.str)) nq
  refine ⟨q, rfl, ⟨_, SqL.of upd_same⟩, fun D nD => dc_it (walk_list (K := K) (a := q) (xs := ks.map V.str)) (fun j G4 => Same G3 G4 ∧ G4 q = some (.lst (ks.map V.str)) ∧ G4 D = some (.dK (kN (ks.take j) (dO dl))))
    ⟨s4.trans (same_upd nD), (same_upd nD) _ _ upd_same, upd_same⟩ (fun j G4 _ hh => SqL.of hh.2.1) ?_ ?_⟩
  · rintro j y G4 G5 hj ⟨s5, hq4, hD4⟩ ⟨rfl, hy⟩
    obtain ⟨n, hn, rfl⟩ := map_at hy
    have hno := perm.mem_iff.mp (List.mem_of_getElem? hn)
    refine ⟨rfl, _, rfl, _, rfl, _, rfl, tD, .int (dO dl n), rfl, ?_, ?_⟩
    · rw [← kN_get (wf := dO dl) hno]
      exact .inl ⟨_, Sum.inr n, .inl (s5 _ _ g3), rfl, rfl⟩
    refine ⟨_, Sum.inr n, rfl, hD4, ?_, ?_, ?_, ?_⟩
    · rw [kN_len, List.length_take]; exact szl (by omega)
    · exact s5.mut (s4.free nD)
    · have : q ≠ D := fun z => by rw [z, hD4] at hq4; cases hq4
      rw [upd_ne this]; exact hq4
    · rw [upd_same, kN_new (nodup_take_not hnk hn) rfl, take_succ_at hn]
  rintro G4 ⟨s5, hq4, hD4⟩
  rw [List.length_map, List.take_length] at hD4
  have hp4 := s5 _ _ hp3
  have nDp : D ≠ p := fun z => by
    have : G3 D = none := s4.free nD
    rw [z, hp3] at this; cases this
  refine ⟨_, rfl, p, C, dx, [], rfl, hp4, TP.cl, TP.nD, (by show 0 < 1000; decide), ?_⟩
  have b5 : But p H (upd G4 p (.ins C dx (putF "delays" (.ref D) []))) := fun b o n e => by
    rw [upd_ne n]; exact s5 _ _ (s03 _ _ e)
  have hD5 : upd G4 p (.ins C dx (putF "delays" (.ref D) [])) D = some (.dK (kN ks (dO dl))) := by rw [upd_ne nDp]; exact hD4
  have hp5 : upd G4 p (.ins C dx (putF "delays" (.ref D) [])) p = some (.ins C dx (putF "delays" (.ref D) [])) := upd_same
  have nca : ca ≠ p := fun z => by rcases hca with e | e <;> (rw [z, hp] at e; cases e)
  have hca5 := hca.imp (b5 _ _ nca) (b5 _ _ nca)
  generalize upd G4 p (.ins C dx (putF "delays" (.ref D) [])) = G5 at b5 hD5 hp5 hca5 ⊢
  -- self.wires = tuple(wires)
  refine ⟨_, rfl, ca, xs, rfl, hca5, fun wa G6 s6 hwa hwc => ?_⟩
  have nwp : wa ≠ p := by
    rcases hwc with e | e
    · intro z; rw [z, hp5] at e; cases e
    · rw [e]; exact nca
  have hp6 := s6 _ _ hp5
  refine ⟨_, rfl, p, C, dx, _, rfl, hp6, TP.cl, TP.nW, (by show 1 < 1000; decide), ?_⟩
  have b7 : But p H (upd G6 p (.ins C dx (putF "wires" (.ref wa) (putF "delays" (.ref D) [])))) := fun b o n e => by
    rw [upd_ne n]; exact s6 _ _ (b5 _ _ n e)
  have hD7 : upd G6 p (.ins C dx (putF "wires" (.ref wa) (putF "delays" (.ref D) []))) D = some (.dK (kN ks (dO dl))) := by rw [upd_ne nDp]; exact s6 _ _ hD5
  have hw7 : upd G6 p (.ins C dx (putF "wires" (.ref wa) (putF "delays" (.ref D) []))) wa = some (.tup xs) := by rw [upd_ne nwp]; exact hwa
  have hp7 : upd G6 p (.ins C dx (putF "wires" (.ref wa) (putF "delays" (.ref D) []))) p = some (.ins C dx [(("delays" : Str), V.ref D), (("wires" : Str), V.ref wa)]) := by
    rw [upd_same, show putF "delays" (V.ref D) [] = [(("delays" : Str), V.ref D)] from rfl, pfw]
  generalize upd G6 p (.ins C dx (putF "wires" (.ref wa) (putF "delays" (.ref D) []))) = G7 at b7 hD7 hw7 hp7 ⊢
  have hx7 : Al (WAt G7) xs ws := hxs.mono fun _ _ z => z.tups (fun b ys e => b7 _ _ (fun z => by rw [z, hp] at e; cases e) e)
  have pl7 : PlAt C G7 p ⟨ks, dO dl, ws⟩ := ⟨dx, D, wa, xs, hp7, hD7, hw7, hx7⟩
  refine ⟨_, rfl, p, dx, _, rfl, hp7, fld_no (by decide +kernel) (by decide +kernel), fun m nm => ?_⟩
  have s8 := same_upd (o := HO.dK []) nm
  refine ⟨p, m, ⟨ks, dO dl, ws⟩, fun _ => 0, rfl, pl7.same s8, okp, ⟨[], upd_same, fun x => .inl ⟨rfl, rfl⟩⟩, fun r G9 s9 hr9 => ?_⟩
  have b9 : But p H G9 := b7.trans ((s8.trans s9).but p)
  have pl9 := (pl7.same s8).same s9
  obtain ⟨_, k2⟩ := k G9 b9
  obtain ⟨_, k3⟩ := k2 dl rfl hA
  obtain ⟨k4, k5⟩ := k3 ws ks rfl hW perm srt
  cases r with
  | none => exact ⟨rfl, true, rfl, iteT (k4 hr9)⟩
  | some mm => exact ⟨rfl, false, rfl, iteF (k5 mm hr9 pl9)⟩
end
end PN
/-! == and != by an own __eq__, with both answers -/
namespace PySem.W
open PySem PySem.Calls PyProof.Rows PyProof.V PySem.Spec
section
variable {prog : Program} {w : World} {A : Around} {E : Value → Shared → Prop} {s : Shared} {K : Frag} {x C L f : Addr} {h₀ : Heap} {m : Str → Option Value} {ox : Obj} {od : Option Obj} {b tb : Value}
theorem objNeBody {Q : Fin → Shared → Prop} (hu : A.units < cLine) (X : K.In s.heap) (I : InstAt s.heap x ox C od) (hs : findIn K (.ref C) "__eq__" = some (some (.ref f))) (hf : isFn K (.ref f) = true)
    (h : wpAny (model prog w) A (call (.ref f) [.ref x, b]) (fun v s' => ∃ k, v = .bool k ∧ Q (.done (.ret (.bool (!k)))) s') E s) : wpAny (model prog w) A (Builtin.«object.__ne__» ⟨[.ref x, b], []⟩) Q E s := by
  unfold Builtin.«object.__ne__»
  repeat (first
    | with_reducible refine wpAny_cRoomFor hu ?_
    | (refine wpAny_bind (m := callSpecialIfBound? (.ref x) (Str.ofString "__eq__") [b])
        (ifBound_K X I hs hf (wpAny_mono h (fun r s' hr => by
          obtain ⟨k, rfl, hq⟩ := hr
          repeat (first | exact hq | exact wpAny_pure hq | exact wpAny_truthy_bool hq | (refine wpAny_bind (m := truthy (.bool _)) (wpAny_truthy_bool ?_)) | wp_step)) fun _ _ e => e)))
    | wp_step)
theorem ne_own {Q : Value → Shared → Prop} (hu : A.units + 1 < cLine) (hF : Fr h₀ L s.heap m) (X₀ : K.In h₀) (I : InstAt s.heap x ox C od) (hb : Looks (model prog w) s.heap (typeOf b) tb) (hn : notFirst K C tb = true)
    (hne : findIn K (.ref C) "__ne__" = some (some (.builtin "object.__ne__"))) (hs : findIn K (.ref C) "__eq__" = some (some (.ref f))) (hf : isFn K (.ref f) = true) (hm : mroIn K C (.type "object") = some true)
    (h : wpAny (model prog w) A.in1 (call (.ref f) [.ref x, b]) (fun v s' => ∃ k, v = .bool k ∧ Q (.bool (!k)) s') E s) : wpAny (model prog w) A (richCompare .NotEq (.ref x) b) Q E s := by
  have X := X₀.keeps hF.keep
  have cl : wpAny (model prog w) A (callSpecialIfBound? (.ref x) "__ne__" [b]) (fun r s' => ∃ v, r = some v ∧ (∃ k, v = .bool k) ∧ Q v s') E s := by
    simp only [callSpecialIfBound?, bindSpecialIfBound?]
    refine wpAny_holding (wpAny_bind (wpAny_bind (wpAny_bind (I.type.here ((looks_findIn X hne).here ?_)))))
    simp only [F.cmp_object.ne.bind]
    refine wpAny_bind (wpAny_askSetting (wpAny_ite ?_))
    have one : wpAny (model prog w) A (call (.builtin "object.__ne__") [.ref x, b]) (fun v s' => (∃ k, v = .bool k) ∧ Q v s') E s := by
      refine wpAny_call (codeAny_call_builtin F.cmp_object.ne.plain F.cmpEntry_ne (check_slot F.cmpKind_ne F.cmpSplit_ne (I.type.andThen (looks_mroIn X hm)) (F.cmpArgs_ne _ _)
        (objNeBody (A := A.in1) hu X I hs hf (wpAny_mono h (fun v s' hv => ?_) fun _ _ e => e))))
      obtain ⟨k, rfl, hq⟩ := hv
      first | exact ⟨k, rfl, wpAny_pure ⟨⟨_, rfl⟩, hq⟩⟩ | exact ⟨k, rfl, wpAny_pure (wpAny_pure ⟨⟨_, rfl⟩, hq⟩)⟩ | exact ⟨k, rfl, ⟨_, rfl⟩, hq⟩
    have fin : wpAny (model prog w) A (call (.builtin "object.__ne__") ([.ref x] ++ [b]) >>= fun v => pure (some v)) (fun r s' => ∃ v, r = some v ∧ (∃ k, v = .bool k) ∧ Q v s') E s :=
      wpAny_bind (wpAny_mono one (fun v s' h' => wpAny_pure ⟨v, rfl, h'⟩) fun _ _ h' => h')
    split
    · exact wpAny_bind (wpAny_pure (wpAny_pure fin))
    · exact wpAny_tryCatch (wpAny_bind (wpAny_pure (wpAny_pure fin)))
  have one : wpAny (model prog w) A (tryCompare (.ref x) "__ne__" b) (fun r s' => ∃ v, r = some v ∧ Q v s') E s := by
    unfold tryCompare
    refine wpAny_bind (wpAny_mono cl (fun r s' hr => ?_) fun _ _ e => e)
    obtain ⟨v, rfl, ⟨k, rfl⟩, hq⟩ := hr
    exact wpAny_pure ⟨_, rfl, hq⟩
  unfold richCompare
  simp only [oneThing_ref]
  refine wpAny_holding (wpAny_bind (wpAny_cRoomFor (Nat.lt_of_succ_lt hu) ?_))
  refine wpAny_bind (I.type.here (wpAny_bind (hb.here ?_)))
  split
  · rename_i q
    have e : subIn K tb (.ref C) = some false := by
      rcases Bool.or_eq_true_iff.mp hn with e | e
      · rw [beq_iff_eq.mp e] at q; simp at q
      · exact beq_iff_eq.mp e
    refine wpAny_bind ((looks_subIn X e).here ?_)
    simp only [Bool.false_eq_true, if_false]
    refine wpAny_bind (wpAny_mono one (fun r s' z => ?_) fun _ _ e => e)
    obtain ⟨v, rfl, hq⟩ := z
    exact wpAny_pure hq
  · refine wpAny_bind (wpAny_pure ?_)
    simp only [Bool.false_eq_true, if_false]
    refine wpAny_bind (wpAny_mono one (fun r s' z => ?_) fun _ _ e => e)
    obtain ⟨v, rfl, hq⟩ := z
    exact wpAny_pure hq
end
end PySem.W
namespace LayT
open PySem PySem.Spec PyProof.Rows L2
section
variable {X : Cx} {n : Nat} {CX : CXT} {C f : Addr} {fd : FuncData} {ps : List Str} {sp : Sp} {E : XK}
def rOwn (C : Addr) (sp : Sp) (E : XK) (ng : Bool) : R2 := fun x y H Q => ∃ a b dx dy fs gs, x = .ref a ∧ y = .ref b ∧ H a = some (.ins C dx fs) ∧ H b = some (.ins C dy gs) ∧ sp [.ref a, .ref b] H (fun v H' => ∃ k, v = .bl k ∧ Q (.bl (ng != k)) H') E
theorem op_eqOwn (F : FnOk X.prog X.w X.K X.mg X.base CX n f fd ps sp) (hr : Room n X.A) (hs : PySem.W.findIn X.K (.ref C) "__eq__" = some (some (.ref f))) (hf : PySem.W.isFn X.K (.ref f) = true) (hb : Binds X.K fd ps []) (hx : Passes CX X E) :
    OpR X (compareOp .Eq) (rOwn C sp E false) := by
  intro pins s σ H x y v u Q I rx ry h
  obtain ⟨a, b, dx, dy, fs, gs, rfl, rfl, ha, hb', hsp⟩ := h
  cases rx
  cases ry
  obtain ⟨mA, J, _⟩ := ins_get I.hok ha
  obtain ⟨mB, J', _⟩ := ins_get I.hok hb'
  obtain ⟨od, J, _⟩ := J.look
  obtain ⟨od', J', _⟩ := J'.look
  obtain ⟨m, hF⟩ := I.fr
  show wpAny (model X.prog X.w) X.A (richCompare .Eq _ _) (EP X pins σ Q) X.xe s
  refine PySem.W.cmp_K (op := .Eq) (tb := .ref C) hr.units0 hF I.ok.mod.kin J J'.type (by simp [PySem.W.notFirst]) hs hf ?_
  have e0 : Env0 X.prog X.w X.K X.mg X.base X.A X.stack s H := I.env0
  have hl := F.len _ _ _ _ hsp
  have r2 : Vals [V.ref a, V.ref b] [Value.ref a, Value.ref b] := .cons rfl (.cons rfl .nil)
  refine wpAny_call (codeAny_mono (F.run X.A X.stack s H ⟨[.ref a, .ref b], []⟩ [.ref a, .ref b] [.ref a, .ref b] _ E hr e0 (by
    have := hb s [.ref a, .ref b] I.kIn (by simpa using hl)
    simpa using this) r2 hsp) fun r s' hq => ?_)
  cases r with
  | error e => exact hx pins σ H s e s' I hq
  | ok fl =>
    cases fl with
    | ret w =>
      obtain ⟨z, H', I', rz, k, ez, q⟩ := I.after hq
      subst ez
      cases rz
      exact ⟨.bl k, H', I', rfl, by simpa using q⟩
    | next => exact False.elim hq
    | brk => exact False.elim hq
    | cont => exact False.elim hq
theorem op_neOwn (F : FnOk X.prog X.w X.K X.mg X.base CX n f fd ps sp) (hr : Room (n + 1) X.A) (hne : PySem.W.findIn X.K (.ref C) "__ne__" = some (some (.builtin "object.__ne__"))) (hm : PySem.W.mroIn X.K C (.type "object") = some true)
    (hs : PySem.W.findIn X.K (.ref C) "__eq__" = some (some (.ref f))) (hf : PySem.W.isFn X.K (.ref f) = true) (hb : Binds X.K fd ps []) (hx : Passes CX X E) :
    OpR X (compareOp .NotEq) (rOwn C sp E true) := by
  intro pins s σ H x y v u Q I rx ry h
  obtain ⟨a, b, dx, dy, fs, gs, rfl, rfl, ha, hb', hsp⟩ := h
  cases rx
  cases ry
  obtain ⟨mA, J, _⟩ := ins_get I.hok ha
  obtain ⟨mB, J', _⟩ := ins_get I.hok hb'
  obtain ⟨od, J, _⟩ := J.look
  obtain ⟨od', J', _⟩ := J'.look
  obtain ⟨m, hF⟩ := I.fr
  show wpAny (model X.prog X.w) X.A (richCompare .NotEq _ _) (EP X pins σ Q) X.xe s
  refine PySem.W.ne_own (tb := .ref C) (by have := hr.units; omega) hF I.ok.mod.kin J J'.type (by simp [PySem.W.notFirst]) hne hs hf hm ?_
  have e0 : Env0 X.prog X.w X.K X.mg X.base X.A.in1 X.stack s H := by
    have e := I.env0
    exact ⟨e.frames, e.mod, e.bs, e.bsz, e.funs, e.frf, e.hok, e.bare⟩
  have hl := F.len _ _ _ _ hsp
  have r2 : Vals [V.ref a, V.ref b] [Value.ref a, Value.ref b] := .cons rfl (.cons rfl .nil)
  refine wpAny_call (codeAny_mono (F.run X.A.in1 X.stack s H ⟨[.ref a, .ref b], []⟩ [.ref a, .ref b] [.ref a, .ref b] _ E hr.in1 e0 (by
    have := hb s [.ref a, .ref b] I.kIn (by simpa using hl)
    simpa using this) r2 hsp) fun r s' hq => ?_)
  cases r with
  | error e => exact hx pins σ H s e s' I hq
  | ok fl =>
    cases fl with
    | ret w =>
      obtain ⟨z, H', I', rz, k, ez, q⟩ := I.after hq
      subst ez
      cases rz
      exact ⟨k, rfl, .bl (!k), H', I', rfl, by simpa using q⟩
    | next => exact False.elim hq
    | brk => exact False.elim hq
    | cont => exact False.elim hq
end
/-! ### == of dicts of numbers under the same names, both answers -/
def dEq (ks ls : List (Key × V)) : Bool := ks.all fun p => decide (valV ls p.1 = some p.2)
theorem hitsN {P : Program} {w : World} {A : Around} {s : Shared} {ls : List (Key × V)} {vb : List (Key × Value)} (rb : KV ls vb) {ks : List (Key × V)} {va : List (Key × Value)} (ra : KV ks va) :
    (∀ p ∈ ks, ∃ i j, p.2 = .int i ∧ valV ls p.1 = some (.int j)) → PySem.W.KeqHitsP P w A s vb va (dEq ks ls) := by
  unfold KV at ra
  induction ra with
  | nil => intro _; exact .nil
  | @cons p q ps qs h t k =>
    intro hp
    obtain ⟨h1, h2⟩ := h
    obtain ⟨i, j, e1, e2⟩ := hp p List.mem_cons_self
    have rr : RelO (some (.int j)) (valueAt vb p.1) := by rw [← e2]; exact rb.val p.1
    obtain ⟨y, hy, ry⟩ := rr.some_of
    obtain ⟨key, v⟩ := q
    have h1' : p.1 = key := h1
    rw [h1'] at hy
    have hh := k fun p' hm => hp p' (List.mem_cons_of_mem _ hm)
    have e3 : dEq (p :: ps) ls = (eqV p.2 (.int j) && dEq ps ls) := by
      show (decide (valV ls p.1 = some p.2) && _) = _
      rw [e2, e1]
      congr 1
      by_cases c : i = j
      · subst c; simp [eqV]
      · have : ¬ (some (V.int j) = some (V.int i)) := fun z => c (V.int.inj (Option.some.inj z)).symm
        rw [decide_eq_false this]
        simp [eqV, c]
    rw [e3]
    rw [e1] at h2 ⊢
    exact .hit hy (eqAt_V h2 ry rfl rfl).eqP hh
def rEqN (ng : Bool) : R2 := fun x y H Q => ∃ (a b : Addr) (ks ls : List (Key × V)), x = .ref a ∧ y = .ref b ∧ H a = some (.dK ks) ∧ H b = some (.dK ls) ∧ ks.length = ls.length ∧
  (∀ p ∈ ks, ∃ i j, p.2 = .int i ∧ valV ls p.1 = some (.int j)) ∧ Q (.bl (ng != dEq ks ls)) H
theorem op_eqN {X : Cx} (hu : X.A.units < cLine) : OpR X (compareOp .Eq) (rEqN false) := by
  intro pins s σ H x y v u Q I rx ry h
  obtain ⟨a, b, ks, ls, rfl, rfl, ea, eb, hlen, hp, q⟩ := h
  obtain rfl : v = Value.ref a := rx
  obtain rfl : u = Value.ref b := ry
  obtain ⟨_, ya, va, ra, da⟩ := (show ObjOk X.prog X.w H s.heap a (.dK ks) from I.hok a _ ea)
  obtain ⟨_, yb, vb, rb, db⟩ := (show ObjOk X.prog X.w H s.heap b (.dK ls) from I.hok b _ eb)
  have hl : va.length = vb.length := by rw [← ra.length, ← rb.length]; exact hlen
  exact PySem.W.rcP_dicts (knd := mixKind X.prog X.w) (r := dEq ks ls) ya yb da db hu (fun _ => hitsN rb ra hp) _ _ (fin_bl I q (by simp [hl]))
end LayT
namespace PN
open PySem PySem.Spec PyProof.Rows L2 LayT
/-! ### wires as data -/
def dWr (q : W3) : PyData := .tuple [.str q.1, .str q.2.1, .int q.2.2]
def dWs (ws : List W3) : PyData := .tuple (ws.map dWr)
theorem dpall_of {K : PySem.W.Frag} {H : Hp} {α : Type} {R : V → α → Prop} {g : α → PyData} (f : ∀ x d, R x d → Dp K H x (g d)) : ∀ {xs : List V} {ds : List α}, Al R xs ds → DpAll K H xs (ds.map g)
  | [], [], _ => .nil
  | x :: xs, d :: ds, h => .cons (f x d (h.2 0 x d rfl rfl)) (dpall_of f ⟨by have := h.1; simp at this; exact this, fun i y e hy he => h.2 (i + 1) y e (by simpa using hy) (by simpa using he)⟩)
  | [], _ :: _, h => by have := h.1; simp at this
  | _ :: _, [], h => by have := h.1; simp at this
theorem dp_wr {K : PySem.W.Frag} {H : Hp} {x : V} {q : W3} (h : WAt H x q) : Dp K H x (dWr q) := by
  obtain ⟨a, rfl, ha⟩ := h
  exact .tup (SqT.of ha) (.cons (.str _) (.cons (.str _) (.cons (.int _) .nil)))
theorem dp_wsT {K : PySem.W.Frag} {H : Hp} {a : Addr} {xs : List V} {ws : List W3} (h : H a = some (.tup xs)) (hx : Al (WAt H) xs ws) : Dp K H (.ref a) (dWs ws) := .tup (SqT.of h) (dpall_of (g := dWr) (fun _ _ h => dp_wr h) hx)
theorem layAll {α : Type} {g : α → PyData} : ∀ {ds : List α}, (∀ d ∈ ds, (g d).canLay0 = true) → PyData.canLayAll0 (ds.map g) = true
  | [], _ => rfl
  | d :: ds, h => by
    rw [List.map_cons]; unfold PyData.canLayAll0
    rw [h d List.mem_cons_self, layAll fun x hx => h x (List.mem_cons_of_mem _ hx)]; rfl
theorem depAll {α : Type} {g : α → PyData} {m : Nat} : ∀ {ds : List α}, (∀ d ∈ ds, (g d).depth ≤ m) → PyData.depthAll (ds.map g) ≤ m
  | [], _ => Nat.zero_le _
  | d :: ds, h => by
    rw [List.map_cons]; unfold PyData.depthAll
    have h1 := h d List.mem_cons_self
    have h2 := depAll (g := g) (m := m) (ds := ds) fun x hx => h x (List.mem_cons_of_mem _ hx)
    omega
def TxtW (ws : List W3) : Prop := ∀ q ∈ ws, PyData.strOk q.1 = true ∧ PyData.strOk q.2.1 = true
theorem shaped_ws {ws : List W3} (h : TxtW ws) : SeqAt.shaped (dWs ws) = true := by
  have hE : ∀ q ∈ ws, (dWr q).canLay0 = true := fun q hq => by
    unfold dWr
    unfold PyData.canLay0 PyData.canLayAll0
    unfold PyData.canLay0 PyData.canLayAll0
    unfold PyData.canLay0 PyData.canLayAll0
    unfold PyData.canLay0 PyData.canLayAll0
    rw [(h q hq).1, (h q hq).2]; rfl
  have dE1 : ∀ q : W3, (dWr q).depth ≤ 1 := fun e => Nat.le_refl _
  have hS : (dWs ws).canLay0 = true := by
    unfold dWs PyData.canLay0
    exact layAll hE
  have dS1 : (dWs ws).depth ≤ 3 := by
    unfold dWs PyData.depth
    have := depAll (g := dWr) (m := 1) (ds := ws) fun q _ => dE1 q
    omega
  unfold SeqAt.shaped
  rw [hS, Bool.true_and]
  exact decide_eq_true (by omega)
theorem eqv_longer : ∀ {xs : List PyData} {x : PyData}, PyData.eqvAll xs (xs ++ [x]) = false
  | [], x => by unfold PyData.eqvAll; rfl
  | y :: xs, x => by
    rw [List.cons_append]; unfold PyData.eqvAll
    rw [eqv_longer (xs := xs), Bool.and_false]
theorem eqv_ws {ws : List W3} {q : W3} : PyData.eqv (dWs ws) (dWs (ws ++ [q])) = false := by
  unfold dWs
  rw [List.map_append]
  unfold PyData.eqv
  exact eqv_longer
section
variable {P : Program} {w : World} {K : PySem.W.Frag} {mg : Str → Option Value} {base : Heap} {C CB : Addr}
/-! ### Plan.__eq__ -/
def spEqP (C : Addr) : Sp := fun vs H Q _ => ∃ (p p2 : Addr) (ks : List Str) (d : Str → Int) (ws ws2 : List W3), vs = [.ref p, .ref p2] ∧ PlAt C H p ⟨ks, d, ws⟩ ∧ PlAt C H p2 ⟨ks, d, ws2⟩ ∧ ks.Nodup ∧ TxtW ws ∧ TxtW ws2 ∧ Q (.bl (PyData.eqv (dWs ws) (dWs ws2))) H
theorem scEq : FnScope ["self", "other"] ["self", "other"] (defScope sEq) := ⟨rfl, rfl, rfl, by decide +kernel, rfl, by decide +kernel, by decide +kernel⟩
theorem ok_eq {f : Addr} {fd : FuncData} (F : Fun K "__eq__" "Plan.__eq__" sEq f fd) (T : Txt K mg) (TP : TxtP K mg C) (IC : C8.InsC K C) : FnOk P w K mg base CX0 1 f fd ["self", "other"] (spEqP C) := by
  refine F.ok scEq (fun vs H Q E h => ?_) (fun cdv A outer s H vs Q E hr h => ?_)
  · obtain ⟨p, p2, ks, d, ws, ws2, rfl, _⟩ := h
    rfl
  · obtain ⟨p, p2, ks, d, ws, ws2, rfl, h1, h2, hn, t1, t2, k⟩ := h
    refine ⟨_, pss_one (ps_ret (pe_and (pe_callB call_isi (by rfl) T.isinst (by decide +kernel) (pa_cons (pv 1) (pa_cons (pgl (v := .ref C) ⟨_, TP.g, rfl⟩) pa_nil)))
      (pe_and (pe_cmpR (op_eq_dict hr.units0) (pe_fld (pv 0) rfl) (pe_fld (pv 1) rfl) (nomark _)) (pe_one (pe_cmpR (eqDK K hr.units) (pe_fld (pv 0) rfl) (pe_fld (pv 1) rfl) (nomark _)))))), ?_⟩
    obtain ⟨dx, da, wa, xs, e1, e2, e3, e4⟩ := h1
    obtain ⟨dy, db, wb, ys, g1, g2, g3, g4⟩ := h2
    refine ⟨_, rfl, .ref p2, .ref C, .ref C, .ref C, true, rfl, .own C, .base (.ins g1 IC.cl IC.ha IC.hn IC.htk IC.hm), IC.me, ?_⟩
    have hkd : ((kN ks d).map (·.1)).Nodup := by
      unfold kN
      rw [List.map_map]
      exact inr_nodup hn
    have hfl : ∀ p ∈ kN ks d, flatB p.2 = true := fun p hp => by
      obtain ⟨n, _, rfl⟩ := List.mem_map.mp hp
      rfl
    refine ⟨_, rfl, iteT ?_⟩
    refine ⟨_, rfl, p, C, dx, _, _, rfl, e1, TP.cl, TP.nD, fld_d, _, rfl, p2, C, dy, _, _, rfl, g1, TP.cl, TP.nD, fld_d, da, db, kN ks d, rfl, rfl, e2, g2, hkd, hfl, _, rfl, iteT ?_⟩
    exact ⟨_, rfl, p, C, dx, _, _, rfl, e1, TP.cl, TP.nW, fld_w, _, rfl, p2, C, dy, _, _, rfl, g1, TP.cl, TP.nW, fld_w, _, _, dp_wsT e3 e4, dp_wsT g3 g4, shaped_ws t1, shaped_ws t2, k⟩
/-! ### need_plan -/
structure InsN (K : PySem.W.Frag) (C : Addr) : Prop where
  i : C8.InsC K C
  kI : PySem.W.kitOne K (.type "int") (.ref C) = some false
def spNeed (C CB : Addr) : Sp := fun vs H Q E => (∃ p dx fs, vs = [.ref p] ∧ H p = some (.ins C dx fs) ∧ Q .non H) ∨ ∃ i : Int, vs = [.int i] ∧ E (.ref CB) none H
theorem scNeed : FnScope ["plan"] ["plan"] (defScope sNeed) := ⟨rfl, rfl, rfl, by decide +kernel, rfl, by decide +kernel, by decide +kernel⟩
theorem ok_need {f : Addr} {fd : FuncData} (F : Fun K "need_plan" "need_plan" sNeed f fd) (T : Txt K mg) (TP : TxtP K mg C) (TB : ErrC K mg "BadPlan" CB) (IC : InsN K C) : FnOk P w K mg base (L2.CX P w) 1 f fd ["plan"] (spNeed C CB) := by
  refine F.okX scNeed (fun vs H Q E h => ?_) (fun cdv A outer s H vs Q E hr h => ?_)
  · rcases h with ⟨p, dx, fs, rfl, _⟩ | ⟨i, rfl, _⟩ <;> rfl
  · refine ⟨_, pss_one (ps_if (pt_not (pt_val (pe_callB call_isi (by rfl) T.isinst (by decide +kernel) (pa_cons (pv 0) (pa_cons (pgl (v := .ref C) ⟨_, TP.g, rfl⟩) pa_nil)))))
      (pss_one (ps_raise rfl (takes_of rfl rfl rfl rfl) (pmk_own PySem.F.excBase_ValueError TB.q TB.g TB.k (raises_own TB.b TB.t) (by exact rfl)))) pss_nil), ?_⟩
    rcases h with ⟨p, dx, fs, rfl, hp, k⟩ | ⟨i, rfl, k⟩
    · exact ⟨_, rfl, .ref p, .ref C, .ref C, .ref C, true, rfl, .own C, .base (.ins hp IC.i.cl IC.i.ha IC.i.hn IC.i.htk IC.i.hm), IC.i.me, _, rfl, iteF k⟩
    · exact ⟨_, rfl, .int i, .ref C, .type "int", .ref C, false, rfl, .own C, .base (.int i), IC.kI, _, rfl, iteT k⟩
/-! ### stood -/
def spStood : Sp := fun vs H Q _ => ∃ (m : Addr) (ks : List Str) (f : Str → Int), vs = [.ref m] ∧ H m = some (.dK (kN ks f)) ∧ ks.Nodup ∧ ks.length ≤ 1000 ∧ out ∈ ks ∧ ∀ r H', Same H H' → H' r = some (.dK (kN ks fun x => f x - f out)) → Q (.ref r) H'
abbrev nStood : List Str := ["moves", "gate"]
theorem scStood : FnScope nStood ["moves"] (defScope sStood) := ⟨rfl, rfl, rfl, by decide +kernel, rfl, by decide +kernel, by decide +kernel⟩
theorem ok_stood {f : Addr} {fd : FuncData} (F : Fun K "stood" "stood" sStood f fd) (T : Txt K mg) : FnOk P w K mg base CX0 1 f fd ["moves"] spStood := by
  refine F.ok scStood (fun vs H Q E h => ?_) (fun cdv A outer s H vs Q E hr h => ?_)
  · obtain ⟨m, ks, f, rfl, _⟩ := h
    rfl
  · obtain ⟨m, ks, f, rfl, hm, hn, hl, ho, k⟩ := h
    have nd := scStood.nd
    have hu := hu_of hr
    refine ⟨_, pss_one (ps_ret (pe_lock (pe_dc (own := [("gate", 1)]) (g := gName 1) (by rfl) nd (pi_keys (pv 0)) (blkOk_by (N := nStood) (sc := defScope sStood) (by decide +kernel))
          (fun _ _ _ _ _ => pg_name (i := 1) nd rfl (.inl rfl)) (fun _ _ _ _ _ => pts_nil) (fun _ _ _ _ _ => pv 1) (fun _ _ _ _ _ => pe_op op_sub (pe_dget hu (pv 0) (pv 1) (fun _ _ => rfl)) (pe_dget hu (pv 0) (pgl T.O) (fun _ _ => rfl)))))), ?_⟩
    refine ⟨m, _, hm, True.intro, fun od => ?_⟩
    have hf : upd H m (.frz od (.dK (kN ks f))) m = some (.frz od (.dK (kN ks f))) := upd_same
    have hun : ∀ {H2 : Hp}, Same (upd H m (.frz od (.dK (kN ks f)))) H2 → Same H (upd H2 m (.dK (kN ks f))) := fun s2 => unlock hm s2
    generalize upd H m (.frz od (.dK (kN ks f))) = Hf at hf hun ⊢
    refine ⟨_, rfl, m, od, rfl, .inl ⟨_, hf, fun c nc => dc_it (walk_keys (d := m) (o := od) (kvs := kN ks f)) (fun j G2 => Same Hf G2 ∧ G2 c = some (.dK (kN (ks.take j) fun x => f x - f out)))
      ⟨same_upd nc, upd_same⟩ (fun j G2 _ hh => hh.1 _ _ hf) ?_ ?_⟩⟩
    · rintro j y G2 G3 hj ⟨sG, gc⟩ ⟨rfl, ky, vy, hky, rfl⟩
      have hn' : ∃ n, ks[j]? = some n ∧ ky = Sum.inr n ∧ vy = .int (f n) := by
        unfold kN at hky
        rw [List.getElem?_map] at hky
        obtain ⟨n, hn, e⟩ := Option.map_eq_some_iff.mp hky
        cases e
        exact ⟨n, hn, rfl, rfl⟩
      obtain ⟨n, hn', rfl, rfl⟩ := hn'
      have hg : ∀ x ∈ ks, DGet G3 m (.str x) (some (.int (f x))) := fun x hx => by
        rw [← kN_get (wf := f) hx]
        exact .inl ⟨_, Sum.inr x, .inr ⟨od, sG _ _ hf⟩, rfl, rfl⟩
      refine ⟨rfl, _, rfl, _, rfl, _, rfl, m, _, rfl, hg n (List.mem_of_getElem? hn'), _, rfl, m, _, rfl, hg out ho, _, _, rfl, rfl, ?_⟩
      refine ⟨_, Sum.inr n, rfl, gc, ?_, sG.mut nc, ?_⟩
      · rw [kN_len, List.length_take]; exact szl (by omega)
      · rw [upd_same, kN_new (nodup_take_not hn hn') rfl, take_succ_at hn']
    · rintro G2 ⟨sG, gc⟩
      rw [kN_len, List.take_length] at gc
      have hcm : c ≠ m := fun z => by rw [z, hf] at nc; cases nc
      exact ⟨sG _ _ hf, k c _ (hun sG) (by rw [upd_ne hcm]; exact gc)⟩
end
end PN
/-! Walks over wires, and the least of them by middles -/
namespace PN
section
variable {α : Type} [DecidableEq α]
/-- a walk over wires told by their places: from b to z, what lies between is told by M; registers h, delay D -/
inductive Wk (ws : List (α × α × Int)) (d : α → Int) (M : α → Prop) : α → List Nat → α → Int → Int → Prop
  | one {i : Nat} {q : α × α × Int} (h : ws[i]? = some q) : Wk ws d M q.1 [i] q.2.1 q.2.2 (d q.1 + d q.2.1)
  | cons {i : Nat} {q : α × α × Int} {is : List Nat} {z : α} {h D : Int} (h0 : ws[i]? = some q) (hm : M q.2.1) (r : Wk ws d M q.2.1 is z h D) : Wk ws d M q.1 (i :: is) z (q.2.2 + h) (d q.1 + D)
variable {ws : List (α × α × Int)} {d : α → Int} {M N : α → Prop}
theorem Wk.mono (f : ∀ x, M x → N x) {b z : α} {p : List Nat} {h D : Int} (w : Wk ws d M b p z h D) : Wk ws d N b p z h D := by
  induction w with
  | one h => exact .one h
  | cons h0 hm r ih => exact .cons h0 (f _ hm) ih
theorem Wk.join {b x z : α} {p p2 : List Nat} {h D h2 D2 : Int} (w : Wk ws d M b p x h D) (hx : M x) (w2 : Wk ws d M x p2 z h2 D2) : Wk ws d M b (p ++ p2) z (h + h2) (D + D2 - d x) := by
  induction w with
  | @one i q hq =>
    have e : d q.1 + d q.2.1 + D2 - d q.2.1 = d q.1 + D2 := by omega
    rw [e]
    exact .cons hq hx w2
  | @cons i q is z' h' D' h0 hm r ih =>
    have e1 : q.2.2 + h' + h2 = q.2.2 + (h' + h2) := by omega
    have e2 : d q.1 + D' + D2 - d z' = d q.1 + (D' + D2 - d z') := by omega
    rw [e1, e2]
    exact .cons h0 hm (ih hx w2)
theorem Wk.ne {b z : α} {p : List Nat} {h D : Int} (w : Wk ws d M b p z h D) : p ≠ [] := by
  cases w <;> simp
theorem Wk.ends {b z : α} {p : List Nat} {h D : Int} (w : Wk ws d M b p z h D) : (∃ q ∈ ws, q.1 = b) ∧ ∃ q ∈ ws, q.2.1 = z := by
  induction w with
  | one h => exact ⟨⟨_, List.mem_of_getElem? h, rfl⟩, ⟨_, List.mem_of_getElem? h, rfl⟩⟩
  | cons h0 hm r ih => exact ⟨⟨_, List.mem_of_getElem? h0, rfl⟩, ih.2⟩
theorem Wk.pos (hw : ∀ q ∈ ws, 0 ≤ q.2.2) {b z : α} {p : List Nat} {h D : Int} (w : Wk ws d M b p z h D) : 0 ≤ h := by
  induction w with
  | one h => exact hw _ (List.mem_of_getElem? h)
  | cons h0 hm r ih => have := hw _ (List.mem_of_getElem? h0); omega
/-- the registers of a walk behind moves -/
theorem Wk.rg {mv : α → Int} (hw : ∀ q ∈ ws, 0 ≤ rg mv q) {b z : α} {p : List Nat} {h D : Int} (w : Wk ws d M b p z h D) : 0 ≤ h + mv z - mv b := by
  induction w with
  | one h => exact hw _ (List.mem_of_getElem? h)
  | @cons i q is z h D h0 hm r ih =>
    have := hw _ (List.mem_of_getElem? h0)
    unfold PN.rg at this
    omega
/-- a walk of wires that have no registers behind moves: ranks rise -/
theorem Wk.up {out : α} {mv : α → Int} (hw : ∀ q ∈ ws, 0 ≤ PN.rg mv q) (hM : ∀ x, M x → x ≠ out) {rank : α → Nat} (hr : ∀ b n, Zr ws out mv b n → rank b < rank n) :
    ∀ {b z : α} {p : List Nat} {h D : Int}, Wk ws d M b p z h D → h + mv z - mv b = 0 → b ≠ out → z ≠ out → rank b < rank z := by
  intro b z p h D w
  induction w with
  | @one i q hq =>
    intro e hb hz
    exact hr _ _ ⟨q, List.mem_of_getElem? hq, rfl, rfl, e, hb, hz⟩
  | @cons i q is z h D h0 hm r ih =>
    intro e hb hz
    have hmm := List.mem_of_getElem? h0
    have g1 := hw q hmm
    have g2 := r.rg hw
    unfold PN.rg at g1
    have hn := hM _ hm
    have := hr _ _ (⟨q, hmm, rfl, rfl, by unfold PN.rg; omega, hb, hn⟩ : Zr ws out mv q.1 q.2.1)
    have := ih (by omega) hn hz
    omega
/-- what such a walk takes -/
theorem Wk.sum {out : α} {mv : α → Int} (hw : ∀ q ∈ ws, 0 ≤ PN.rg mv q) (hM : ∀ x, M x → x ≠ out) {S : α → Int} {keys : List α} (hk : ∀ q ∈ ws, q.1 ∈ keys ∧ q.2.1 ∈ keys) (hS : ∀ n ∈ keys, LongAt d (Zr ws out mv) S n) (ho : d out = 0) (hd : ∀ n ∈ keys, 0 ≤ d n) :
    ∀ {b z : α} {p : List Nat} {h D : Int}, Wk ws d M b p z h D → h + mv z - mv b = 0 → ∃ n ∈ keys, (if b = out then 0 else S b - d b) + D ≤ S n := by
  intro b z p h D w
  induction w with
  | @one i q hq =>
    intro e
    have hm := List.mem_of_getElem? hq
    obtain ⟨k1, k2⟩ := hk q hm
    have l1 := (hS _ k1).low
    have l2 := (hS _ k2).low
    have := hd _ k1
    have := hd _ k2
    by_cases hb : q.1 = out
    · rw [if_pos hb]
      refine ⟨q.2.1, k2, ?_⟩
      rw [hb, ho]; omega
    · rw [if_neg hb]
      by_cases hz : q.2.1 = out
      · refine ⟨q.1, k1, ?_⟩
        rw [hz, ho]; omega
      · have := (hS _ k2).up _ (⟨q, hm, rfl, rfl, e, hb, hz⟩ : Zr ws out mv q.1 q.2.1)
        exact ⟨q.2.1, k2, by omega⟩
  | @cons i q is z h D h0 hm r ih =>
    intro e
    have hmm := List.mem_of_getElem? h0
    obtain ⟨k1, k2⟩ := hk q hmm
    have g1 := hw q hmm
    have g2 := r.rg hw
    unfold PN.rg at g1
    have hn := hM _ hm
    obtain ⟨n, hnk, e2⟩ := ih (by omega)
    rw [if_neg hn] at e2
    have l2 := (hS _ k2).low
    refine ⟨n, hnk, ?_⟩
    by_cases hb : q.1 = out
    · rw [if_pos hb, hb, ho]; omega
    · rw [if_neg hb]
      have := (hS _ k2).up _ (⟨q, hmm, rfl, rfl, by unfold PN.rg; omega, hb, hn⟩ : Zr ws out mv q.1 q.2.1)
      omega
theorem zr_at {out : α} {mv : α → Int} {b n : α} (z : Zr ws out mv b n) : ∃ (i : Nat) (q : α × α × Int), ws[i]? = some q ∧ q.1 = b ∧ q.2.1 = n ∧ PN.rg mv q = 0 ∧ b ≠ out ∧ n ≠ out := by
  obtain ⟨q, hq, e⟩ := z
  obtain ⟨i, hi, e2⟩ := List.mem_iff_getElem.mp hq
  exact ⟨i, q, by rw [List.getElem?_eq_getElem hi, e2], e⟩
/-- what a gate's sum is: its own, or that of a walk without registers -/
theorem long_walk {keys : List α} {out : α} {mv : α → Int} (hM : ∀ x, x ∈ keys → x ≠ out → M x) {S : α → Int} {rank : α → Nat} (hr : ∀ b n, Zr ws out mv b n → rank b < rank n) (hk : ∀ q ∈ ws, q.1 ∈ keys ∧ q.2.1 ∈ keys) (hS : ∀ n ∈ keys, LongAt d (Zr ws out mv) S n) :
    ∀ k n, n ∈ keys → rank n ≤ k → S n = d n ∨ ∃ b p h, Wk ws d M b p n h (S n) ∧ h + mv n - mv b = 0 := by
  intro k
  induction k with
  | zero =>
    intro n hn h0
    rcases (hS n hn).eq with e | ⟨b, z, e⟩
    · exact .inl e
    · have := hr b n z; omega
  | succ k ih =>
    intro n hn h0
    rcases (hS n hn).eq with e | ⟨b, z, e⟩
    · exact .inl e
    · have h3 := hr b n z
      obtain ⟨i, q, hq, rfl, rfl, e0, e1, e2⟩ := zr_at z
      obtain ⟨k1, k2⟩ := hk q (List.mem_of_getElem? hq)
      unfold PN.rg at e0
      have w1 : Wk ws d M q.1 [i] q.2.1 q.2.2 (d q.1 + d q.2.1) := .one hq
      rcases ih q.1 k1 (by omega) with e3 | ⟨b, p, h, w, e3⟩
      · refine .inr ⟨q.1, [i], q.2.2, ?_, by omega⟩
        rw [e, e3]; exact w1
      · refine .inr ⟨b, p ++ [i], h + q.2.2, ?_, by omega⟩
        have w2 := w.join (hM _ k1 e1) w1
        rw [show S q.1 + (d q.1 + d q.2.1) - d q.1 = S q.2.1 by omega] at w2
        exact w2
/-! the better of two -/
def bt (h D h' D' : Int) : Prop := h < h' ∨ (h = h' ∧ D' ≤ D)
theorem bt.refl (h D : Int) : bt h D h D := .inr ⟨rfl, Int.le_refl _⟩
theorem bt.trans {h D h1 D1 h2 D2 : Int} (a : bt h D h1 D1) (b : bt h1 D1 h2 D2) : bt h D h2 D2 := by
  unfold bt at *; omega
theorem bt.add {h D h1 D1 h' D' h1' D1' : Int} (c : Int) (a : bt h D h1 D1) (b : bt h' D' h1' D1') : bt (h + h') (D + D' - c) (h1 + h1') (D1 + D1' - c) := by
  unfold bt at *; omega
/-- walks by one more middle -/
theorem Wk.split {m : α} (hm0 : ∀ {p : List Nat} {h D : Int}, Wk ws d N m p m h D → 1 ≤ h) (hMN : ∀ x, M x → N x) (hN : ∀ x, N x → M x ∨ x = m) :
    ∀ {b z : α} {p : List Nat} {h D : Int}, Wk ws d N b p z h D → (∃ p' h' D', Wk ws d M b p' z h' D' ∧ bt h' D' h D) ∨
      ∃ p1 h1 D1 p2 h2 D2, Wk ws d M b p1 m h1 D1 ∧ Wk ws d M m p2 z h2 D2 ∧ bt (h1 + h2) (D1 + D2 - d m) h D := by
  intro b z p h D w
  induction w with
  | one hq => exact .inl ⟨_, _, _, .one hq, bt.refl _ _⟩
  | @cons i q is z h D h0 hm r ih =>
    rcases hN _ hm with hx | hx
    · rcases ih with ⟨p', h', D', w', e⟩ | ⟨p1, h1, D1, p2, h2, D2, w1, w2, e⟩
      · exact .inl ⟨_, _, _, .cons h0 hx w', by unfold bt at *; omega⟩
      · exact .inr ⟨_, _, _, _, _, _, .cons h0 hx w1, w2, by unfold bt at *; omega⟩
    · rcases ih with ⟨p', h', D', w', e⟩ | ⟨p1, h1, D1, p2, h2, D2, w1, w2, e⟩
      · have w1 : Wk ws d M q.1 [i] q.2.1 q.2.2 (d q.1 + d q.2.1) := .one h0
        rw [hx] at w' w1
        refine .inr ⟨_, _, _, _, _, _, w1, w', ?_⟩
        unfold bt at *; omega
      · have w0 : Wk ws d M q.1 [i] q.2.1 q.2.2 (d q.1 + d q.2.1) := .one h0
        rw [hx] at w1 w0
        refine .inr ⟨_, _, _, _, _, _, w0, w2, ?_⟩
        have := hm0 (w1.mono hMN)
        unfold bt at *; omega
end
end PN
/-! Limits between moves, kept or not: last limits, their rings -/
namespace PN
section
variable {α : Type} [DecidableEq α]
/-- limits as data: places of ends, what may lie between, whether it keeps a register, registers, delay, places -/
structure LM (α : Type) where
  b : α
  z : α
  k : Bool
  h : Int
  D : Int
  p : List Nat
def LM.most (l : LM α) : Int := l.h - (if l.k = true then 1 else 0)
/-- a ring of limits -/
def Chain : List (LM α) → Prop
  | [] => True
  | [_] => True
  | l :: l2 :: r => l.z = l2.b ∧ Chain (l2 :: r)
def Keeps (ls : List (LM α)) (mv : α → Int) : Prop := ∀ l ∈ ls, mv l.b ≤ mv l.z + l.most
def mostSum (r : List (LM α)) : Int := (r.map LM.most).sum
structure RingAt (ls : List (LM α)) (g : α) (r : List (LM α)) : Prop where
  mem : ∀ l ∈ r, l ∈ ls
  chain : Chain r
  first : ∃ l, r.head? = some l ∧ l.b = g
  last : ∃ l, r.getLast? = some l ∧ l.z = g
  neg : mostSum r < 0
theorem chain_sum {ls : List (LM α)} {mv : α → Int} (hk : Keeps ls mv) : ∀ (r : List (LM α)), (∀ l ∈ r, l ∈ ls) → Chain r → ∀ l e, r.head? = some l → r.getLast? = some e → mv l.b ≤ mv e.z + mostSum r
  | [], _, _, l, e, h, _ => by simp at h
  | [x], hm, _, l, e, h, h2 => by
    simp at h h2; subst h; subst h2
    have := hk x (hm x List.mem_cons_self)
    unfold mostSum; simp; omega
  | x :: y :: r, hm, hc, l, e, h, h2 => by
    simp at h; subst h
    have ih := chain_sum hk (y :: r) (fun l hl => hm l (List.mem_cons_of_mem _ hl)) hc.2 y e rfl (by rw [List.getLast?_cons_cons] at h2; exact h2)
    have h3 := hk x (hm x List.mem_cons_self)
    rw [hc.1] at h3
    unfold mostSum at *
    rw [List.map_cons, List.sum_cons]; omega
theorem RingAt.no {ls : List (LM α)} {g : α} {r : List (LM α)} (h : RingAt ls g r) {mv : α → Int} (hk : Keeps ls mv) : False := by
  obtain ⟨l, h1, e1⟩ := h.first
  obtain ⟨e, h2, e2⟩ := h.last
  have h3 := chain_sum hk r h.mem h.chain l e h1 h2
  have := h.neg
  rw [e1, e2] at h3
  omega
/-! ### the state of the search: moves, last limits, times -/
/-- last limits la, times of change tm (0: never), behind T looks -/
structure BF (ls : List (LM α)) (T : Nat) (mv : α → Int) (la : α → Option (LM α)) (tm : α → Nat) : Prop where
  le : ∀ x, tm x ≤ T
  some_ : ∀ x, 0 < tm x → ∃ l, la x = some l
  mem : ∀ x l, la x = some l → l ∈ ls ∧ l.b = x ∧ 0 < tm x
  ge : ∀ x l, la x = some l → mv l.z + l.most ≤ mv x ∧ (tm x ≤ tm l.z → mv l.z + l.most < mv x) ∧ tm x ≤ tm l.z + ls.length
  viol : ∀ (i : Nat) l, ls[i]? = some l → mv l.z + l.most < mv l.b → ∀ c, c < T → c % ls.length = i → c < tm l.z
variable {ls : List (LM α)} {T : Nat} {mv : α → Int} {la : α → Option (LM α)} {tm : α → Nat}
theorem BF.start : BF ls 0 (fun _ => 0) (fun _ => none) (fun _ => 0) :=
  ⟨fun _ => Nat.le_refl _, fun _ h => absurd h (Nat.lt_irrefl _), fun _ _ h => (nomatch h), fun _ _ h => (nomatch h), fun _ _ _ _ c h => absurd h (Nat.not_lt_zero _)⟩
theorem BF.skip (h : BF ls T mv la tm) {l : LM α} (hl : ls[T % ls.length]? = some l) (hn : ¬ mv l.z + l.most < mv l.b) : BF ls (T + 1) mv la tm := by
  refine ⟨fun x => Nat.le_succ_of_le (h.le x), h.some_, h.mem, h.ge, fun i l2 hi hv c hc e => ?_⟩
  by_cases hcT : c = T
  · subst hcT
    rw [e, hi] at hl
    cases hl
    exact absurd hv hn
  · exact h.viol i l2 hi hv c (by omega) e
def pt {β : Type} (f : α → β) (x : α) (v : β) : α → β := fun y => if y = x then v else f y
theorem pt_same {β : Type} {f : α → β} {x : α} {v : β} : pt f x v x = v := if_pos rfl
theorem pt_ne {β : Type} {f : α → β} {x y : α} {v : β} (h : y ≠ x) : pt f x v y = f y := if_neg h
theorem BF.put (h : BF ls T mv la tm) {l : LM α} (hl : ls[T % ls.length]? = some l) (hn : mv l.z + l.most < mv l.b) : BF ls (T + 1) (pt mv l.b (mv l.z + l.most)) (pt la l.b (some l)) (pt tm l.b (T + 1)) := by
  have hlm := List.mem_of_getElem? hl
  have hle : ∀ x, pt tm l.b (T + 1) x ≤ T + 1 := fun x => by
    unfold pt; split
    · exact Nat.le_refl _
    · exact Nat.le_succ_of_le (h.le x)
  have htz : T + 1 ≤ tm l.z + ls.length := by
    by_cases c : T < ls.length
    · omega
    · have := h.viol _ l hl hn (T - ls.length) (by have : 0 < ls.length := List.length_pos_of_mem hlm; omega) (by
        rw [← Nat.mod_eq_sub_mod (by omega)])
      omega
  refine ⟨hle, fun x hx => ?_, fun x l2 h2 => ?_, fun x l2 h2 => ?_, fun i l2 hi hv c hc e => ?_⟩
  · unfold pt at hx ⊢
    split
    · exact ⟨_, rfl⟩
    · rename_i n; rw [if_neg n] at hx; exact h.some_ x hx
  · by_cases e : x = l.b
    · rw [e, pt_same] at h2; cases h2
      rw [e, pt_same]; exact ⟨hlm, rfl, Nat.succ_pos _⟩
    · rw [pt_ne e] at h2 ⊢; exact h.mem x l2 h2
  · by_cases e : x = l.b
    · rw [e, pt_same] at h2; cases h2
      rw [e, pt_same, pt_same]
      by_cases ez : l.z = l.b
      · rw [ez, pt_same, pt_same]
        rw [ez] at hn
        refine ⟨by omega, fun _ => by omega, by omega⟩
      · rw [pt_ne ez, pt_ne ez]
        refine ⟨Int.le_refl _, fun z => ?_, htz⟩
        have := h.le l.z; omega
    · rw [pt_ne e] at h2
      obtain ⟨g1, g2, g3⟩ := h.ge x l2 h2
      rw [pt_ne e, pt_ne e]
      by_cases ez : l2.z = l.b
      · rw [ez, pt_same, pt_same]
        rw [ez] at g1 g3
        have := h.le x
        exact ⟨by omega, fun _ => by omega, by omega⟩
      · rw [pt_ne ez, pt_ne ez]; exact ⟨g1, g2, g3⟩
  · by_cases ez : l2.z = l.b
    · rw [ez, pt_same]; omega
    · rw [pt_ne ez]
      rw [pt_ne ez] at hv
      by_cases eb : l2.b = l.b
      · rw [eb, pt_same] at hv
        -- the same begin: the old value was greater
        by_cases hcT : c = T
        · subst hcT
          rw [e, hi] at hl
          cases hl
          omega
        · exact h.viol i l2 hi (by rw [eb]; omega) c (by omega) e
      · rw [pt_ne eb] at hv
        by_cases hcT : c = T
        · subst hcT
          rw [e, hi] at hl
          cases hl
          exact absurd rfl eb
        · exact h.viol i l2 hi hv c (by omega) e
/-! ### the ring -/
def nx (la : α → Option (LM α)) (x : α) : α := match la x with
  | some l => l.z
  | none => x
def it (la : α → Option (LM α)) : Nat → α → α
  | 0, x => x
  | k + 1, x => nx la (it la k x)
theorem it_add (a b : Nat) (x : α) : it la (a + b) x = it la b (it la a x) := by
  induction b with
  | zero => rfl
  | succ b ih => show nx la (it la (a + b) x) = nx la _; rw [ih]
theorem pigeon {keys : List α} : ∀ (N : Nat) (f : Nat → α), keys.length ≤ N → (∀ k, k ≤ N → f k ∈ keys) → ∃ i j, i < j ∧ j ≤ N ∧ f i = f j := by
  intro N f hN hf
  refine Classical.byContradiction fun hno => ?_
  have hnd : ((List.range (N + 1)).map f).Nodup := by
    rw [List.Nodup, List.pairwise_map]
    refine List.Pairwise.imp_of_mem ?_ (List.pairwise_lt_range (n := N + 1))
    intro a b ha hb hlt e
    exact hno ⟨a, b, hlt, by have := List.mem_range.mp hb; omega, e⟩
  have hlen : ∀ (l m : List α), l.Nodup → (∀ x ∈ l, x ∈ m) → l.length ≤ m.length := by
    intro l
    induction l with
    | nil => intro m _ _; exact Nat.zero_le _
    | cons a l ih =>
      intro m hn hs
      rw [List.nodup_cons] at hn
      have ham := hs a List.mem_cons_self
      have := ih (m.erase a) hn.2 fun x hx => (List.mem_erase_of_ne (fun z => by subst z; exact hn.1 hx)).mpr (hs x (List.mem_cons_of_mem _ hx))
      rw [List.length_erase_of_mem ham] at this
      have hpos : 0 < m.length := List.length_pos_of_mem ham
      rw [List.length_cons]; omega
  have := hlen _ keys hnd fun x hx => by
    obtain ⟨k, hk, rfl⟩ := List.mem_map.mp hx
    exact hf k (by have := List.mem_range.mp hk; omega)
  rw [List.length_map, List.length_range] at this
  omega
/-- where one stands behind N steps: all that follows is told, and it comes back -/
theorem BF.round (h : BF ls T mv la tm) {keys : List α} (hk : ∀ l ∈ ls, l.b ∈ keys ∧ l.z ∈ keys) {g : α} (hg : keys.length * ls.length < tm g) :
    (∀ k, ∃ l, la (it la k g) = some l) ∧ ∃ p, 0 < p ∧ p ≤ keys.length ∧ it la (keys.length + p) g = it la keys.length g := by
  have h1 : ∀ k, k ≤ keys.length → (keys.length - k) * ls.length < tm (it la k g) := by
    intro k
    induction k with
    | zero => intro _; exact hg
    | succ k ih =>
      intro hk2
      have h2 := ih (by omega)
      obtain ⟨l, hl⟩ := h.some_ _ (Nat.lt_of_le_of_lt (Nat.zero_le _) h2)
      have h3 := (h.ge _ l hl).2.2
      have e : it la (k + 1) g = l.z := by show nx la _ = _; unfold nx; rw [hl]
      rw [e]
      have e2 : keys.length - k = (keys.length - (k + 1)) + 1 := by omega
      rw [e2, Nat.succ_mul] at h2
      omega
  have h2 : ∀ k, k ≤ keys.length → ∃ l, la (it la k g) = some l := fun k hk2 => h.some_ _ (Nat.lt_of_le_of_lt (Nat.zero_le _) (h1 k hk2))
  obtain ⟨i, j, hij, hjN, e⟩ := pigeon (keys := keys) keys.length (fun k => it la k g) (Nat.le_refl _) fun k hk2 => by
    obtain ⟨l, hl⟩ := h2 k hk2
    have := h.mem _ l hl
    rw [← this.2.1]
    exact (hk l this.1).1
  have e2 : ∀ m, it la (i + m) g = it la (j + m) g := fun m => by rw [it_add, it_add, show it la i g = it la j g from e]
  have h3 : ∀ n k, k ≤ n → ∃ k', k' ≤ keys.length ∧ it la k g = it la k' g := by
    intro n
    induction n with
    | zero => intro k hk2; exact ⟨k, by omega, rfl⟩
    | succ n ih =>
      intro k hk2
      by_cases c : k ≤ keys.length
      · exact ⟨k, c, rfl⟩
      · have e3 := e2 (k - j)
        rw [show j + (k - j) = k by omega] at e3
        obtain ⟨k', a, b⟩ := ih (i + (k - j)) (by omega)
        exact ⟨k', a, by rw [← e3]; exact b⟩
  refine ⟨fun k => ?_, j - i, by omega, by omega, ?_⟩
  · obtain ⟨k', a, b⟩ := h3 k k (Nat.le_refl _)
    rw [b]; exact h2 k' a
  · have := e2 (keys.length - i)
    rw [show i + (keys.length - i) = keys.length by omega, show j + (keys.length - i) = keys.length + (j - i) by omega] at this
    exact this.symm
/-- a part of the ring: from g on to c -/
structure Part (ls : List (LM α)) (mv : α → Int) (la : α → Option (LM α)) (tm : α → Nat) (g : α) (r : List (LM α)) (c : α) : Prop where
  mem : ∀ l ∈ r, l ∈ ls
  chain : Chain r
  first : ∃ l, r.head? = some l ∧ l.b = g
  last : ∃ l, r.getLast? = some l ∧ l.z = c
  sum : mostSum r + mv c ≤ mv g
  neg : tm g ≤ tm c → mostSum r + mv c < mv g
theorem Part.one (h : BF ls T mv la tm) {g : α} {l : LM α} (hl : la g = some l) : Part ls mv la tm g [l] l.z := by
  have h1 := h.mem _ _ hl
  have h2 := h.ge _ _ hl
  refine ⟨fun x hx => by rw [List.mem_singleton.mp hx]; exact h1.1, trivial, ⟨l, rfl, h1.2.1⟩, ⟨l, rfl, rfl⟩, ?_, fun e => ?_⟩
  · unfold mostSum; simp; omega
  · have := h2.2.1 e; unfold mostSum; simp; omega
theorem chain_snoc : ∀ {r : List (LM α)} {e l : LM α}, Chain r → r.getLast? = some e → e.z = l.b → Chain (r ++ [l])
  | [], _, _, _, h, _ => by simp at h
  | [x], e, l, _, h, h2 => by simp at h; subst h; exact ⟨h2, trivial⟩
  | x :: y :: r, e, l, hc, h, h2 => ⟨hc.1, chain_snoc (r := y :: r) hc.2 (by rw [List.getLast?_cons_cons] at h; exact h) h2⟩
theorem Part.snoc (h : BF ls T mv la tm) {g c : α} {r : List (LM α)} (p : Part ls mv la tm g r c) {l : LM α} (hl : la c = some l) : Part ls mv la tm g (r ++ [l]) l.z := by
  have h1 := h.mem _ _ hl
  have h2 := h.ge _ _ hl
  obtain ⟨e, he, hec⟩ := p.last
  obtain ⟨f, hf, hfg⟩ := p.first
  have hs := p.sum
  refine ⟨fun x hx => ?_, chain_snoc p.chain he (by rw [hec, h1.2.1]), ⟨f, ?_, hfg⟩, ⟨l, by simp, rfl⟩, ?_, fun e => ?_⟩
  · rcases List.mem_append.mp hx with z | z
    · exact p.mem x z
    · rw [List.mem_singleton.mp z]; exact h1.1
  · cases r with
    | nil => simp at hf
    | cons a r => exact hf
  · unfold mostSum at *; simp; omega
  · unfold mostSum at *
    simp
    by_cases c2 : tm c ≤ tm l.z
    · have := h2.2.1 c2; omega
    · have := p.neg (by omega)
      unfold mostSum at this; omega
theorem Part.ring {g : α} {r : List (LM α)} (p : Part ls mv la tm g r g) : RingAt ls g r := ⟨p.mem, p.chain, p.first, p.last, by have := p.neg (Nat.le_refl _); omega⟩
end
end PN
/-! Moves that keep a beat; the least beat -/
namespace PN
section
variable {α : Type} [DecidableEq α]
structure Rt (keys : List α) (d : α → Int) (ws : List (α × α × Int)) (out : α) : Prop where
  ends : ∀ q ∈ ws, q.1 ∈ keys ∧ q.2.1 ∈ keys
  dpos : ∀ n ∈ keys, 0 ≤ d n
  dout : d out = 0
  ko : out ∈ keys
  hpos : ∀ q ∈ ws, 0 ≤ q.2.2
  rk : ∃ rank : α → Nat, ∀ b n, Zr ws out (fun _ => 0) b n → rank b < rank n
def Good (ws : List (α × α × Int)) (d : α → Int) (out : α) (mv : α → Int) (b : Int) : Prop := (∀ q ∈ ws, 0 ≤ rg mv q) ∧ ∀ u p z h D, Wk ws d (fun x => x ≠ out) u p z h D → b < D → 1 ≤ h + mv z - mv u
variable {keys : List α} {d : α → Int} {ws : List (α × α × Int)} {out : α} {mv : α → Int}
theorem Good.mono {b b' : Int} (h : Good ws d out mv b) (e : b ≤ b') : Good ws d out mv b' := ⟨h.1, fun u p z hh D w l => h.2 u p z hh D w (by omega)⟩
theorem rg0 {q : α × α × Int} : rg (fun _ => 0) q = q.2.2 := by unfold rg; dsimp only; omega
theorem Rt.loop (R : Rt keys d ws out) {m : α} (hm : m ≠ out) {p : List Nat} {h D : Int} (w : Wk ws d (fun x => x ≠ out) m p m h D) : 1 ≤ h := by
  have h0 := w.pos R.hpos
  refine Classical.byContradiction fun hno => ?_
  obtain ⟨rank, hr⟩ := R.rk
  have := w.up (mv := fun _ => 0) (fun q hq => by rw [rg0]; exact R.hpos q hq) (fun x hx => hx) hr (by omega) hm hm
  omega
theorem good_of_beat (R : Rt keys d ws out) {m : Int} (h : BeatIs keys d ws out mv (some m)) : Good ws d out mv m := by
  obtain ⟨h1, S, rank, hS, hr, hle, _⟩ := h
  refine ⟨h1, fun u p z hh D w hlt => ?_⟩
  have h0 := w.rg h1
  refine Classical.byContradiction fun hno => ?_
  obtain ⟨n, hn, e⟩ := w.sum h1 (fun x hx => hx) R.ends hS R.dout R.dpos (by omega)
  have h2 := hle n hn
  obtain ⟨⟨q, hq, rfl⟩, _⟩ := w.ends
  have := (hS _ (R.ends q hq).1).low
  split at e <;> omega
theorem beat_low {m : Int} (h : BeatIs keys d ws out mv (some m)) : ∀ n ∈ keys, d n ≤ m := fun n hn => by
  obtain ⟨_, S, rank, hS, hr, hle, _⟩ := h
  have := (hS n hn).low
  have := hle n hn
  omega
/-- what a beat is: a gate's delay, or that of a walk without registers -/
theorem beat_is (R : Rt keys d ws out) {m : Int} (h : BeatIs keys d ws out mv (some m)) : (∃ n ∈ keys, m = d n) ∨ ∃ u p z h, Wk ws d (fun x => x ≠ out) u p z h m ∧ h + mv z - mv u = 0 := by
  obtain ⟨h1, S, rank, hS, hr, hle, n, hn, e⟩ := h
  rcases long_walk (M := fun x => x ≠ out) (fun x _ hx => hx) hr R.ends hS (rank n) n hn (Nat.le_refl _) with e2 | ⟨b, p, hh, w, e2⟩
  · exact .inl ⟨n, hn, by omega⟩
  · rw [e] at w; exact .inr ⟨b, p, n, hh, w, e2⟩
theorem max_of {l : List α} (mv : α → Int) : ∃ M : Int, ∀ n ∈ l, mv n ≤ M := by
  induction l with
  | nil => exact ⟨0, fun n h => by cases h⟩
  | cons a l ih =>
    obtain ⟨M, hM⟩ := ih
    refine ⟨if mv a ≤ M then M else mv a, fun n hn => ?_⟩
    rcases List.mem_cons.mp hn with rfl | hn
    · split <;> omega
    · have := hM n hn; split <;> omega
theorem Rt.no_ring (R : Rt keys d ws out) (h1 : ∀ q ∈ ws, 0 ≤ rg mv q) : ¬ Ring (Zr ws out mv) := by
  rintro ⟨L, hne, hL⟩
  obtain ⟨rank, hr⟩ := R.rk
  obtain ⟨M, hM⟩ := max_of (l := L) mv
  have : ∀ k r n, n ∈ L → (M - mv n).toNat ≤ k → rank n ≤ r → False := by
    intro k
    induction k with
    | zero =>
      intro r
      induction r with
      | zero =>
        intro n hn hk h0
        obtain ⟨b, hb, z⟩ := hL n hn
        obtain ⟨q, hq, rfl, rfl, e, e1, e2⟩ := z
        have g1 := hM _ hb
        have g2 := R.hpos q hq
        unfold rg at e
        have := hr q.1 q.2.1 ⟨q, hq, rfl, rfl, by rw [rg0]; omega, e1, e2⟩
        omega
      | succ r ih =>
        intro n hn hk h0
        obtain ⟨b, hb, z⟩ := hL n hn
        obtain ⟨q, hq, rfl, rfl, e, e1, e2⟩ := z
        have g1 := hM _ hb
        have g2 := R.hpos q hq
        unfold rg at e
        have := hr q.1 q.2.1 ⟨q, hq, rfl, rfl, by rw [rg0]; omega, e1, e2⟩
        exact ih q.1 hb (by omega) (by omega)
    | succ k ihk =>
      intro r
      induction r with
      | zero =>
        intro n hn hk h0
        obtain ⟨b, hb, z⟩ := hL n hn
        obtain ⟨q, hq, rfl, rfl, e, e1, e2⟩ := z
        have g1 := hM _ hb
        have g2 := R.hpos q hq
        unfold rg at e
        by_cases c : q.2.2 = 0
        · have := hr q.1 q.2.1 ⟨q, hq, rfl, rfl, by rw [rg0]; omega, e1, e2⟩
          omega
        · exact ihk (rank q.1) q.1 hb (by omega) (Nat.le_refl _)
      | succ r ih =>
        intro n hn hk h0
        obtain ⟨b, hb, z⟩ := hL n hn
        obtain ⟨q, hq, rfl, rfl, e, e1, e2⟩ := z
        have g1 := hM _ hb
        have g2 := R.hpos q hq
        unfold rg at e
        by_cases c : q.2.2 = 0
        · have := hr q.1 q.2.1 ⟨q, hq, rfl, rfl, by rw [rg0]; omega, e1, e2⟩
          exact ih q.1 hb (by omega) (by omega)
        · exact ihk (rank q.1) q.1 hb (by omega) (Nat.le_refl _)
  cases L with
  | nil => exact hne rfl
  | cons n L => exact this _ _ n List.mem_cons_self (Nat.le_refl _) (Nat.le_refl _)
theorem beat_of_good (R : Rt keys d ws out) {b : Int} (hg : Good ws d out mv b) (hd : ∀ n ∈ keys, d n ≤ b) {r : Option Int} (h : BeatIs keys d ws out mv r) : ∃ m, r = some m ∧ m ≤ b := by
  cases r with
  | none =>
    rcases h with ⟨q, hq, hl⟩ | hR
    · have := hg.1 q hq; omega
    · exact absurd hR (R.no_ring hg.1)
  | some m =>
    refine ⟨m, rfl, ?_⟩
    rcases beat_is R h with ⟨n, hn, e⟩ | ⟨u, p, z, hh, w, e⟩
    · have := hd n hn; omega
    · refine Classical.byContradiction fun hno => ?_
      have := hg.2 _ _ _ _ _ w (by omega)
      omega
/-! paths and limits -/
structure Paths (ws : List (α × α × Int)) (d : α → Int) (out : α) (Ent : α → α → Int → Int → Prop) : Prop where
  sound : ∀ u z h D, Ent u z h D → ∃ p, Wk ws d (fun x => x ≠ out) u p z h D
  full : ∀ u p z h D, Wk ws d (fun x => x ≠ out) u p z h D → ∃ h' D', Ent u z h' D' ∧ bt h' D' h D
structure LmsOk (ws : List (α × α × Int)) (d : α → Int) (out : α) (Ent : α → α → Int → Int → Prop) (b : Int) (ls : List (LM α)) : Prop where
  wire : ∀ l ∈ ls, l.k = false → ∃ (i : Nat) (q : α × α × Int), l.p = [i] ∧ ws[i]? = some q ∧ l.b = q.1 ∧ l.z = q.2.1 ∧ l.h = q.2.2
  walk : ∀ l ∈ ls, l.k = true → Wk ws d (fun x => x ≠ out) l.b l.p l.z l.h l.D ∧ Ent l.b l.z l.h l.D ∧ b < l.D
  allw : ∀ q ∈ ws, ∃ l ∈ ls, l.k = false ∧ l.b = q.1 ∧ l.z = q.2.1 ∧ l.h = q.2.2
  allp : ∀ u z h D, Ent u z h D → b < D → ∃ l ∈ ls, l.k = true ∧ l.b = u ∧ l.z = z ∧ l.h = h
variable {Ent : α → α → Int → Int → Prop}
theorem LmsOk.good (P : Paths ws d out Ent) {b : Int} {ls : List (LM α)} (L : LmsOk ws d out Ent b ls) (hk : Keeps ls mv) : Good ws d out mv b := by
  have hw : ∀ q ∈ ws, 0 ≤ rg mv q := fun q hq => by
    obtain ⟨l, hl, e, e1, e2, e3⟩ := L.allw q hq
    have := hk l hl
    unfold LM.most at this
    rw [e, e1, e2, e3] at this
    unfold rg
    simp at this; omega
  refine ⟨hw, fun u p z h D w hlt => ?_⟩
  obtain ⟨h', D', hE, hb⟩ := P.full u p z h D w
  obtain ⟨p', w'⟩ := P.sound _ _ _ _ hE
  have h0 := w'.rg hw
  rcases hb with hb | ⟨hb1, hb2⟩
  · omega
  · obtain ⟨l, hl, e, e1, e2, e3⟩ := L.allp _ _ _ _ hE (by omega)
    have := hk l hl
    unfold LM.most at this
    rw [e, e1, e2, e3] at this
    simp at this; omega
theorem LmsOk.keeps {b : Int} {ls : List (LM α)} (L : LmsOk ws d out Ent b ls) (hg : Good ws d out mv b) : Keeps ls mv := by
  intro l hl
  unfold LM.most
  cases e : l.k with
  | false =>
    obtain ⟨i, q, _, hq, e1, e2, e3⟩ := L.wire l hl e
    have := hg.1 q (List.mem_of_getElem? hq)
    unfold rg at this
    rw [e1, e2, e3]
    simp; omega
  | true =>
    obtain ⟨w, _, hlt⟩ := L.walk l hl e
    have := hg.2 _ _ _ _ _ w hlt
    simp; omega
/-- no moves have a lesser beat -/
theorem least_beat (R : Rt keys d ws out) (P : Paths ws d out Ent) {b0 b : Int} {ls r : List (LM α)} {g : α} (L : LmsOk ws d out Ent b0 ls) (hr : RingAt ls g r) (hd : ∀ n ∈ keys, d n ≤ b0) (hn : ∀ u z h D, Ent u z h D → b0 < D → b ≤ D)
    {m : Int} (h : BeatIs keys d ws out mv (some m)) : b ≤ m := by
  have hg := good_of_beat R h
  have hlt : b0 < m := by
    refine Classical.byContradiction fun hno => ?_
    exact hr.no (L.keeps (hg.mono (show m ≤ b0 by omega)))
  rcases beat_is R h with ⟨n, hn', e⟩ | ⟨u, p, z, hh, w, e⟩
  · have := hd n hn'; omega
  · obtain ⟨h', D', hE, hb⟩ := P.full _ _ _ _ _ w
    obtain ⟨p', w'⟩ := P.sound _ _ _ _ hE
    have h0 := w'.rg hg.1
    have hD : m ≤ D' := by unfold bt at hb; omega
    have hh' : h' + mv z - mv u = 0 := by unfold bt at hb; omega
    have hD2 : D' ≤ m := by
      refine Classical.byContradiction fun hno => ?_
      have := hg.2 _ _ _ _ _ w' (by omega)
      omega
    have := hn _ _ _ _ hE (by omega)
    omega
theorem beat_shift {c : Int} {r : Option Int} (h : BeatIs keys d ws out mv r) : BeatIs keys d ws out (fun x => mv x - c) r := by
  have e1 : ∀ q : α × α × Int, rg (fun x => mv x - c) q = rg mv q := fun q => by unfold rg; dsimp only; omega
  have e2 : Zr ws out (fun x => mv x - c) = Zr ws out mv := by
    funext b n
    unfold Zr
    simp only [e1]
  unfold BeatIs at *
  simp only [e1, e2]
  exact h
end
end PN
namespace PN
open PySem PySem.Spec PyProof.Rows L2 LayT
theorem putF_ne {f g : Str} {v x : V} {r : List (Str × V)} (h : ¬ g = f) : putF f v ((g, x) :: r) = (g, x) :: putF f v r := by
  show (if g = f then _ else _) = _
  rw [if_neg h]
theorem putF_nil {f : Str} {v : V} : putF f v [] = [(f, v)] := rfl
/-! ### Path -/
def pf (h D : Int) (pl : Addr) : List (Str × V) := [(("held" : Str), .int h), (("delay" : Str), .int D), (("places" : Str), .ref pl)]
/-- places as values -/
def iV (l : List Nat) : List V := l.map fun i => V.int ((i : Nat) : Int)
def PaAt (CP : Addr) (H : Hp) (p : Addr) (h D : Int) (l : List Nat) : Prop := ∃ dx pl ys, H p = some (.ins CP dx (pf h D pl)) ∧ H pl = some (.tup ys) ∧ ys = iV l ∧ ys ≠ []
theorem PaAt.same {CP : Addr} {H H' : Hp} {p : Addr} {h D : Int} {l : List Nat} (q : PaAt CP H p h D l) (s : Same H H') : PaAt CP H' p h D l := let ⟨dx, pl, ys, h1, h2, h3⟩ := q; ⟨dx, pl, ys, s _ _ h1, s _ _ h2, h3⟩
theorem PaAt.but {CP d : Addr} {H H' : Hp} {p : Addr} {h D : Int} {l : List Nat} (q : PaAt CP H p h D l) (s : But d H H') {kvs : List (List Key × V)} (hd : H d = some (.dT kvs)) : PaAt CP H' p h D l := by
  obtain ⟨dx, pl, ys, h1, h2, h3⟩ := q
  exact ⟨dx, pl, ys, s _ _ (fun z => by rw [z, hd] at h1; cases h1) h1, s _ _ (fun z => by rw [z, hd] at h2; cases h2) h2, h3⟩
structure TxtPa (K : PySem.W.Frag) (mg : Str → Option Value) (CP : Addr) : Prop where
  cl : Cls K CP
  nh : NoAttr K CP "held"
  nD : NoAttr K CP "delay"
  np : NoAttr K CP "places"
  g : mg "Path" = some (.ref CP)
theorem pf_h {h D : Int} {pl : Addr} : (pf h D pl).lookup ("held" : Str) = some (.int h) := by
  simp only [pf, List.lookup, show (("held" : Str) == "held") = true by decide +kernel]
theorem pf_D {h D : Int} {pl : Addr} : (pf h D pl).lookup ("delay" : Str) = some (.int D) := by
  simp only [pf, List.lookup, show (("delay" : Str) == "held") = false by decide +kernel, show (("delay" : Str) == "delay") = true by decide +kernel]
theorem pf_p {h D : Int} {pl : Addr} : (pf h D pl).lookup ("places" : Str) = some (.ref pl) := by
  simp only [pf, List.lookup, show (("places" : Str) == "held") = false by decide +kernel, show (("places" : Str) == "delay") = false by decide +kernel, show (("places" : Str) == "places") = true by decide +kernel]
theorem pf_no {h D : Int} {pl : Addr} : (pf h D pl).lookup ("comes_before" : Str) = none := by
  simp only [pf, List.lookup, show (("comes_before" : Str) == "held") = false by decide +kernel, show (("comes_before" : Str) == "delay") = false by decide +kernel, show (("comes_before" : Str) == "places") = false by decide +kernel]
theorem pf_eq (h D : Int) (pl : Addr) : putF "places" (.ref pl) (putF "delay" (.int D) (putF "held" (.int h) [])) = pf h D pl := by
  rw [show putF "held" (.int h) [] = [(("held" : Str), V.int h)] from rfl, putF_ne (by decide +kernel), show putF "delay" (.int D) [] = [(("delay" : Str), V.int D)] from rfl, putF_ne (by decide +kernel), putF_ne (by decide +kernel)]
  rfl
section
variable {P : Program} {w : World} {K : PySem.W.Frag} {mg : Str → Option Value} {base : Heap} {CP CL : Addr}
def spPI (CP : Addr) : Sp := fun vs H Q _ => ∃ (p dx : Addr) (h D : Int) (pl : Addr), vs = [.ref p, .int h, .int D, .ref pl] ∧ H p = some (.ins CP dx []) ∧ ∀ H', But p H H' → H' p = some (.ins CP dx (pf h D pl)) → Q .non H'
theorem scPI : FnScope ["self", "held", "delay", "places"] ["self", "held", "delay", "places"] (defScope sPInit) := ⟨rfl, rfl, rfl, by decide +kernel, rfl, by decide +kernel, by decide +kernel⟩
theorem ok_pi {f : Addr} {fd : FuncData} (F : Fun K "__init__" "Path.__init__" sPInit f fd) (TP : TxtPa K mg CP) : FnOk P w K mg base CX0 1 f fd ["self", "held", "delay", "places"] (spPI CP) := by
  refine F.ok scPI (fun vs H Q E h => ?_) (fun cdv A outer s H vs Q E hr h => ?_)
  · obtain ⟨p, dx, h, D, pl, rfl, _⟩ := h
    rfl
  · obtain ⟨p, dx, h, D, pl, rfl, hp, k⟩ := h
    refine ⟨_, pss_cons (ps_fld (pv 0) (pv 1) rfl) (pss_cons (ps_fld (pv 0) (pv 2) rfl) (pss_one (ps_fld (pv 0) (pv 3) rfl))), ?_⟩
    refine ⟨_, rfl, _, rfl, p, CP, dx, [], rfl, hp, TP.cl, TP.nh, (by show 0 < 1000; decide), ?_⟩
    refine ⟨_, rfl, _, rfl, p, CP, dx, _, rfl, upd_same, TP.cl, TP.nD, (by show 1 < 1000; decide), ?_⟩
    refine ⟨_, rfl, _, rfl, p, CP, dx, _, rfl, upd_same, TP.cl, TP.np, (by show 2 < 1000; decide), ?_⟩
    rw [pf_eq]
    exact k _ (fun b o n e => by rw [upd_ne n, upd_ne n, upd_ne n]; exact e) upd_same
/-! ### comes_before -/
def spCB (CP : Addr) : Sp := fun vs H Q _ => ∃ (p q : Addr) (h D h2 D2 : Int) (l l2 : List Nat), vs = [.ref p, .ref q] ∧ PaAt CP H p h D l ∧ PaAt CP H q h2 D2 l2 ∧ ∀ H', Same H H' → Q (.bl (HT.lexLt [h, -D] [h2, -D2])) H'
theorem scCB : FnScope ["self", "other"] ["self", "other"] (defScope sBefore) := ⟨rfl, rfl, rfl, by decide +kernel, rfl, by decide +kernel, by decide +kernel⟩
theorem ltTK {X : Cx} (K : PySem.W.Frag) (hu : X.A.units < cLine) (h : X.K = K := by rfl) : OpR X (compareOp .Lt) (rLtT K) := h ▸ op_ltT hu
theorem ok_cb {f : Addr} {fd : FuncData} (F : Fun K "comes_before" "Path.comes_before" sBefore f fd) (TP : TxtPa K mg CP) : FnOk P w K mg base CX0 1 f fd ["self", "other"] (spCB CP) := by
  refine F.ok scCB (fun vs H Q E h => ?_) (fun cdv A outer s H vs Q E hr h => ?_)
  · obtain ⟨p, q, h, D, h2, D2, l, l2, rfl, _⟩ := h
    rfl
  · obtain ⟨p, q, h, D, h2, D2, l, l2, rfl, ⟨dx, pl, ys, g1, g2, _⟩, ⟨dy, pl2, ys2, e1, e2, _⟩, k⟩ := h
    refine ⟨_, pss_one (ps_ret (pe_cmpR (ltTK K hr.units0) (ptup (pa_cons (pe_fld (pv 0) rfl) (pa_cons (pe_un un_neg (pe_fld (pv 0) rfl)) pa_nil))) (ptup (pa_cons (pe_fld (pv 1) rfl) (pa_cons (pe_un un_neg (pe_fld (pv 1) rfl)) pa_nil))) (nomark _))), ?_⟩
    refine ⟨_, rfl, p, CP, dx, _, _, rfl, g1, TP.cl, TP.nh, pf_h, _, rfl, p, CP, dx, _, _, rfl, g1, TP.cl, TP.nD, pf_D, _, rfl, rd_t2 fun t1 H1 s1 ht1 => ?_⟩
    refine ⟨_, rfl, q, CP, dy, _, _, rfl, s1 _ _ e1, TP.cl, TP.nh, pf_h, _, rfl, q, CP, dy, _, _, rfl, s1 _ _ e1, TP.cl, TP.nD, pf_D, _, rfl, rd_t2 fun t2 H2 s2 ht2 => ?_⟩
    exact ⟨t1, t2, [h, -D], [h2, -D2], rfl, rfl, SqT.of (s2 _ _ ht1), SqT.of ht2, k H2 (s1.trans s2)⟩
theorem lex_le {h D h2 D2 : Int} (e : HT.lexLt [h, D] [h2, D2] = true) : h ≤ h2 := by
  rw [HT.lexLt_cons] at e
  by_cases c : h = h2
  · omega
  · rw [if_neg c] at e
    have := of_decide_eq_true e
    omega
/-! ### Limit -/
def lf (b t : Str) (pa : Addr) (k : Bool) (m : Int) : List (Str × V) := [(("begin" : Str), .str b), (("to" : Str), .str t), (("path" : Str), .ref pa), (("keeps" : Str), .bl k), (("most" : Str), .int m)]
structure TxtL (K : PySem.W.Frag) (mg : Str → Option Value) (CL : Addr) : Prop where
  cl : Cls K CL
  nb : NoAttr K CL "begin"
  nt : NoAttr K CL "to"
  np : NoAttr K CL "path"
  nk : NoAttr K CL "keeps"
  nm : NoAttr K CL "most"
  g : mg "Limit" = some (.ref CL)
theorem lf_b {b t : Str} {pa : Addr} {k : Bool} {m : Int} : (lf b t pa k m).lookup ("begin" : Str) = some (.str b) := by
  simp only [lf, List.lookup, show (("begin" : Str) == "begin") = true by decide +kernel]
theorem lf_t {b t : Str} {pa : Addr} {k : Bool} {m : Int} : (lf b t pa k m).lookup ("to" : Str) = some (.str t) := by
  simp only [lf, List.lookup, show (("to" : Str) == "begin") = false by decide +kernel, show (("to" : Str) == "to") = true by decide +kernel]
theorem lf_m {b t : Str} {pa : Addr} {k : Bool} {m : Int} : (lf b t pa k m).lookup ("most" : Str) = some (.int m) := by
  simp only [lf, List.lookup, show (("most" : Str) == "begin") = false by decide +kernel, show (("most" : Str) == "to") = false by decide +kernel, show (("most" : Str) == "path") = false by decide +kernel, show (("most" : Str) == "keeps") = false by decide +kernel, show (("most" : Str) == "most") = true by decide +kernel]
theorem lf_eq (b t : Str) (pa : Addr) (k : Bool) (m : Int) : putF "most" (.int m) (putF "keeps" (.bl k) (putF "path" (.ref pa) (putF "to" (.str t) (putF "begin" (.str b) [])))) = lf b t pa k m := by
  simp only [putF_nil, putF_ne (show ¬ ("begin" : Str) = "to" by decide +kernel), putF_ne (show ¬ ("begin" : Str) = "path" by decide +kernel), putF_ne (show ¬ ("begin" : Str) = "keeps" by decide +kernel), putF_ne (show ¬ ("begin" : Str) = "most" by decide +kernel), putF_ne (show ¬ ("to" : Str) = "path" by decide +kernel), putF_ne (show ¬ ("to" : Str) = "keeps" by decide +kernel), putF_ne (show ¬ ("to" : Str) = "most" by decide +kernel), putF_ne (show ¬ ("path" : Str) = "keeps" by decide +kernel), putF_ne (show ¬ ("path" : Str) = "most" by decide +kernel), putF_ne (show ¬ ("keeps" : Str) = "most" by decide +kernel)]
  rfl
def b2 (k : Bool) : Int := if k = true then 1 else 0
def spLI (CP CL : Addr) : Sp := fun vs H Q _ => ∃ (p dx pa : Addr) (b t : Str) (k : Bool) (h D : Int) (l : List Nat), vs = [.ref p, .str b, .str t, .ref pa, .bl k] ∧ H p = some (.ins CL dx []) ∧ PaAt CP H pa h D l ∧ pa ≠ p ∧ ∀ H', But p H H' → H' p = some (.ins CL dx (lf b t pa k (h - b2 k))) → Q .non H'
abbrev nLI : List Str := ["self", "begin", "to", "path", "keeps"]
theorem scLI : FnScope nLI nLI (defScope sLInit) := ⟨rfl, rfl, rfl, by decide +kernel, rfl, by decide +kernel, by decide +kernel⟩
theorem ok_li {f : Addr} {fd : FuncData} (F : Fun K "__init__" "Limit.__init__" sLInit f fd) (TP : TxtPa K mg CP) (TL : TxtL K mg CL) : FnOk P w K mg base CX0 1 f fd nLI (spLI CP CL) := by
  refine F.ok scLI (fun vs H Q E h => ?_) (fun cdv A outer s H vs Q E hr h => ?_)
  · obtain ⟨p, dx, pa, b, t, k, h, D, l, rfl, _⟩ := h
    rfl
  · obtain ⟨p, dx, pa, b, t, kp, h, D, l, rfl, hp, ⟨dy, pl, ys, g1, _⟩, npa, k⟩ := h
    refine ⟨_, pss_cons (ps_fld (pv 0) (pv 1) rfl) (pss_cons (ps_fld (pv 0) (pv 2) rfl) (pss_cons (ps_fld (pv 0) (pv 3) rfl) (pss_cons (ps_fld (pv 0) (pv 4) rfl) (pss_one (ps_fld (pv 0) (pe_op op_sub (pe_fld (pv 3) rfl) (pe_ifExp (pt_val (pv 4)) pe_int pe_int)) rfl))))), ?_⟩
    refine ⟨_, rfl, _, rfl, p, CL, dx, [], rfl, hp, TL.cl, TL.nb, (by show 0 < 1000; decide), ?_⟩
    refine ⟨_, rfl, _, rfl, p, CL, dx, _, rfl, upd_same, TL.cl, TL.nt, (by show 1 < 1000; decide), ?_⟩
    refine ⟨_, rfl, _, rfl, p, CL, dx, _, rfl, upd_same, TL.cl, TL.np, (by show 2 < 1000; decide), ?_⟩
    refine ⟨_, rfl, _, rfl, p, CL, dx, _, rfl, upd_same, TL.cl, TL.nk, (by show 3 < 1000; decide), ?_⟩
    have fin : ∀ m, m = h - b2 kp → Q .non (upd (upd (upd (upd (upd H p (.ins CL dx (putF "begin" (.str b) []))) p (.ins CL dx (putF "to" (.str t) (putF "begin" (.str b) [])))) p (.ins CL dx (putF "path" (.ref pa) (putF "to" (.str t) (putF "begin" (.str b) []))))) p
        (.ins CL dx (putF "keeps" (.bl kp) (putF "path" (.ref pa) (putF "to" (.str t) (putF "begin" (.str b) [])))))) p (.ins CL dx (putF "most" (.int m) (putF "keeps" (.bl kp) (putF "path" (.ref pa) (putF "to" (.str t) (putF "begin" (.str b) []))))))) := fun m e => by
      rw [lf_eq, e]
      exact k _ (fun b o n e => by rw [upd_ne n, upd_ne n, upd_ne n, upd_ne n, upd_ne n]; exact e) upd_same
    refine ⟨_, rfl, pa, CP, dy, pf h D pl, _, rfl, ?_, TP.cl, TP.nh, pf_h, ?_⟩
    · rw [upd_ne npa, upd_ne npa, upd_ne npa, upd_ne npa]; exact g1
    refine ⟨_, rfl, kp, rfl, ?_⟩
    cases kp with
    | true => exact iteT ⟨_, _, rfl, rfl, _, rfl, p, CL, dx, _, rfl, upd_same, TL.cl, TL.nm, (by show 4 < 1000; decide), fin _ rfl⟩
    | false => exact iteF ⟨_, _, rfl, rfl, _, rfl, p, CL, dx, _, rfl, upd_same, TL.cl, TL.nm, (by show 4 < 1000; decide), fin _ rfl⟩
end
end PN
namespace PN
open PySem PySem.Spec PyProof.Rows L2 LayT
/-! ### dicts of paths -/
abbrev kT (b t : Str) : List Key := [Sum.inr b, Sum.inr t]
theorem kT_inj {b t b' t' : Str} (h : kT b t = kT b' t') : b = b' ∧ t = t' := by
  unfold kT at h
  rw [List.cons.injEq, List.cons.injEq] at h
  exact ⟨Sum.inr.inj h.1, Sum.inr.inj h.2.1⟩
theorem valV_mem {κ : Type} [DecidableEq κ] {kvs : List (κ × V)} {k : κ} {v : V} (h : valV kvs k = some v) : (k, v) ∈ kvs := by
  induction kvs with
  | nil => cases h
  | cons p l ih =>
    by_cases e : p.1 = k
    · rw [valV_pos e] at h
      cases h
      rw [← e]
      exact List.mem_cons_self
    · rw [valV_neg e] at h
      exact List.mem_cons_of_mem _ (ih h)
theorem mem_valV {κ : Type} [DecidableEq κ] {kvs : List (κ × V)} {k : κ} {v : V} (h : (k, v) ∈ kvs) : (valV kvs k).isSome = true := by
  rw [← valV_any, List.any_eq_true]
  exact ⟨_, h, by simp⟩
abbrev RR : Type := Str → Str → Int → Int → List Nat → Prop
def FdAt (CP : Addr) (H : Hp) (kvs : List (List Key × V)) (R : RR) : Prop := (kvs.map (·.1)).Nodup ∧ ∀ kv ∈ kvs, ∃ b t pa h D l, kv = (kT b t, V.ref pa) ∧ PaAt CP H pa h D l ∧ R b t h D l
theorem FdAt.nil {CP : Addr} {H : Hp} {R : RR} : FdAt CP H [] R := ⟨List.nodup_nil, fun kv h => by cases h⟩
theorem FdAt.but {CP d : Addr} {H H' : Hp} {kvs kvs0 : List (List Key × V)} {R : RR} (h : FdAt CP H kvs R) (s : But d H H') (hd : H d = some (.dT kvs0)) : FdAt CP H' kvs R := ⟨h.1, fun kv hk => by
  obtain ⟨b, t, pa, hh, D, l, e, p, r⟩ := h.2 kv hk
  exact ⟨b, t, pa, hh, D, l, e, p.but s hd, r⟩⟩
theorem FdAt.same {CP : Addr} {H H' : Hp} {kvs : List (List Key × V)} {R : RR} (h : FdAt CP H kvs R) (s : Same H H') : FdAt CP H' kvs R := ⟨h.1, fun kv hk => by
  obtain ⟨b, t, pa, hh, D, l, e, p, r⟩ := h.2 kv hk
  exact ⟨b, t, pa, hh, D, l, e, p.same s, r⟩⟩
theorem FdAt.imp {CP : Addr} {H : Hp} {kvs : List (List Key × V)} {R R' : RR} (h : FdAt CP H kvs R) (f : ∀ b t hh D l, R b t hh D l → R' b t hh D l) : FdAt CP H kvs R' := ⟨h.1, fun kv hk => by
  obtain ⟨b, t, pa, hh, D, l, e, p, r⟩ := h.2 kv hk
  exact ⟨b, t, pa, hh, D, l, e, p, f _ _ _ _ _ r⟩⟩
theorem FdAt.get {CP : Addr} {H : Hp} {kvs : List (List Key × V)} {R : RR} (h : FdAt CP H kvs R) {b t : Str} {v : V} (e : valV kvs (kT b t) = some v) : ∃ pa hh D l, v = .ref pa ∧ PaAt CP H pa hh D l ∧ R b t hh D l := by
  obtain ⟨b', t', pa, hh, D, l, e', p, r⟩ := h.2 _ (valV_mem e)
  rw [Prod.mk.injEq] at e'
  obtain ⟨rfl, rfl⟩ := kT_inj e'.1
  exact ⟨pa, hh, D, l, e'.2, p, r⟩
theorem putK_keys {κ : Type} [DecidableEq κ] {kvs : List (κ × V)} {k : κ} {v : V} : (putK kvs k v).map (·.1) = if (valV kvs k).isSome = true then kvs.map (·.1) else kvs.map (·.1) ++ [k] := by
  unfold putK
  rw [valV_any]
  split
  · rw [List.map_map]
    apply List.map_congr_left
    intro x _
    show (if x.1 = k then (x.1, v) else x).1 = x.1
    split <;> rfl
  · rw [List.map_append]; rfl
theorem putK_mem {κ : Type} [DecidableEq κ] {kvs : List (κ × V)} {k : κ} {v : V} {kv : κ × V} (h : kv ∈ putK kvs k v) : kv = (k, v) ∨ kv ∈ kvs := by
  unfold putK at h
  split at h
  · obtain ⟨x, hx, e⟩ := List.mem_map.mp h
    by_cases c : x.1 = k
    · rw [if_pos c] at e
      rw [← e, c]; exact .inl rfl
    · rw [if_neg c] at e
      rw [← e]; exact .inr hx
  · rcases List.mem_append.mp h with h | h
    · exact .inr h
    · exact .inl (List.mem_singleton.mp h)
theorem not_key {κ : Type} [DecidableEq κ] {kvs : List (κ × V)} {k : κ} (h : ¬ (valV kvs k).isSome = true) : k ∉ kvs.map (·.1) := fun z => by
  obtain ⟨x, hx, rfl⟩ := List.mem_map.mp z
  exact h (mem_valV (k := x.1) (v := x.2) hx)
theorem FdAt.put {CP : Addr} {H : Hp} {kvs : List (List Key × V)} {R : RR} (h : FdAt CP H kvs R) {b t : Str} {pa : Addr} {hh D : Int} {l : List Nat} (p : PaAt CP H pa hh D l) (r : R b t hh D l) : FdAt CP H (putK kvs (kT b t) (.ref pa)) R := by
  refine ⟨?_, fun kv hk => ?_⟩
  · rw [putK_keys]
    split
    · exact h.1
    · rename_i c
      rw [List.nodup_append]
      exact ⟨h.1, by simp, fun a ha b hb e => not_key c (by rw [List.mem_singleton.mp hb] at e; exact e ▸ ha)⟩
  · rcases putK_mem hk with e | e
    · exact ⟨b, t, pa, hh, D, l, e, p, r⟩
    · exact h.2 kv e
/-- how many -/
theorem FdAt.len {CP : Addr} {H : Hp} {kvs : List (List Key × V)} {R : RR} (h : FdAt CP H kvs R) {ks : List Str} (hr : ∀ b t hh D l, R b t hh D l → b ∈ ks ∧ t ∈ ks) : kvs.length ≤ ks.length * ks.length := by
  have e : (ks.flatMap fun b => ks.map fun t => kT b t).length = ks.length * ks.length := by
    have : ∀ (l : List Str), (l.flatMap fun b => ks.map fun t => kT b t).length = l.length * ks.length := by
      intro l
      induction l with
      | nil => simp
      | cons a l ih => rw [List.flatMap_cons, List.length_append, ih, List.length_map, List.length_cons, Nat.succ_mul, Nat.add_comm]
    exact this ks
  rw [← e, ← List.length_map (f := (·.1))]
  refine nodup_le _ _ h.1 fun k hk => ?_
  obtain ⟨kv, hkv, rfl⟩ := List.mem_map.mp hk
  obtain ⟨b, t, pa, hh, D, l, e, _, r⟩ := h.2 kv hkv
  obtain ⟨h1, h2⟩ := hr _ _ _ _ _ r
  rw [e]
  exact List.mem_flatMap.mpr ⟨b, h1, List.mem_map.mpr ⟨t, h2, rfl⟩⟩
theorem PaAt.det {CP : Addr} {H : Hp} {p : Addr} {h h' D D' : Int} {l l' : List Nat} (a : PaAt CP H p h D l) (b : PaAt CP H p h' D' l') : h = h' ∧ D = D' := by
  obtain ⟨dx, pl, ys, h1, _⟩ := a
  obtain ⟨dy, pl', ys', g1, _⟩ := b
  rw [h1] at g1
  unfold pf at g1
  injection g1 with g1
  injection g1 with _ _ g1
  rw [List.cons.injEq, Prod.mk.injEq] at g1
  have g2 := g1.2
  rw [List.cons.injEq, Prod.mk.injEq] at g2
  exact ⟨V.int.inj g1.1.2, V.int.inj g2.1.2⟩
/-- a path as good as h, D from b to z -/
def Cov (CP : Addr) (H : Hp) (kvs : List (List Key × V)) (b z : Str) (h D : Int) : Prop := ∃ pa h' D' l, valV kvs (kT b z) = some (.ref pa) ∧ PaAt CP H pa h' D' l ∧ bt h' D' h D
theorem Cov.same {CP : Addr} {H H' : Hp} {kvs : List (List Key × V)} {b z : Str} {h D : Int} (c : Cov CP H kvs b z h D) (s : Same H H') : Cov CP H' kvs b z h D := let ⟨pa, h', D', l, a, p, e⟩ := c; ⟨pa, h', D', l, a, p.same s, e⟩
theorem Cov.but {CP d : Addr} {H H' : Hp} {kvs kvs0 : List (List Key × V)} {b z : Str} {h D : Int} (c : Cov CP H kvs b z h D) (s : But d H H') (hd : H d = some (.dT kvs0)) : Cov CP H' kvs b z h D := let ⟨pa, h', D', l, a, p, e⟩ := c; ⟨pa, h', D', l, a, p.but s hd, e⟩
theorem Cov.weak {CP : Addr} {H : Hp} {kvs : List (List Key × V)} {b z : Str} {h D h2 D2 : Int} (c : Cov CP H kvs b z h D) (s : bt h D h2 D2) : Cov CP H kvs b z h2 D2 := let ⟨pa, h', D', l, a, p, e⟩ := c; ⟨pa, h', D', l, a, p, e.trans s⟩
theorem lex_bt {h D h2 D2 : Int} (e : HT.lexLt [h, -D] [h2, -D2] = true) : bt h D h2 D2 := by
  rw [HT.lexLt_cons] at e
  unfold bt
  by_cases c : h = h2
  · rw [if_pos c, HT.lexLt_cons] at e
    by_cases c2 : -D = -D2
    · rw [if_pos c2] at e; cases e
    · rw [if_neg c2] at e
      have := of_decide_eq_true e
      omega
  · rw [if_neg c] at e
    have := of_decide_eq_true e
    omega
theorem lex_nbt {h D h2 D2 : Int} (e : HT.lexLt [h, -D] [h2, -D2] = false) : bt h2 D2 h D := by
  rw [HT.lexLt_cons] at e
  unfold bt
  by_cases c : h = h2
  · rw [if_pos c, HT.lexLt_cons] at e
    by_cases c2 : -D = -D2
    · omega
    · rw [if_neg c2] at e
      have := of_decide_eq_false e
      omega
  · rw [if_neg c] at e
    have := of_decide_eq_false e
    omega
section
variable {P : Program} {w : World} {K : PySem.W.Frag} {mg : Str → Option Value} {base : Heap} {CP : Addr}
def spPut (CP : Addr) : Sp := fun vs H Q _ => ∃ (d e p : Addr) (kvs : List (List Key × V)) (b t : Str) (h D : Int) (l : List Nat) (R : RR), vs = [.ref d, .ref e, .ref p] ∧ H d = some (.dT kvs) ∧ H e = some (.tup [.str b, .str t]) ∧ PaAt CP H p h D l ∧ FdAt CP H kvs R ∧ kvs.length ≤ 1000 ∧
  (∀ pa h' D' l', valV kvs (kT b t) = some (.ref pa) → PaAt CP H pa h' D' l' → h ≤ h' → R b t h D l) ∧ (valV kvs (kT b t) = none → R b t h D l) ∧
  ∀ H' kvs', But d H H' → H' d = some (.dT kvs') → FdAt CP H' kvs' R → (∀ k, (valV kvs k).isSome = true → (valV kvs' k).isSome = true) → (∀ b' z' h' D', Cov CP H kvs b' z' h' D' → Cov CP H' kvs' b' z' h' D') → Cov CP H' kvs' b t h D → Q .non H'
theorem scPut : FnScope ["found", "ends", "path"] ["found", "ends", "path"] (defScope sPut) := ⟨rfl, rfl, rfl, by decide +kernel, rfl, by decide +kernel, by decide +kernel⟩
theorem ok_put {f fC : Addr} {fd fdC : FuncData} (F : Fun K "put_path" "put_path" sPut f fd) (TP : TxtPa K mg CP) (DC : Dfm P w K mg base CP "comes_before" 1 ["self", "other"] (spCB CP) fC fdC) : FnOk P w K mg base CX0 2 f fd ["found", "ends", "path"] (spPut CP) := by
  refine F.ok scPut (fun vs H Q E h => ?_) (fun cdv A outer s H vs Q E hr h => ?_)
  · obtain ⟨d, e, p, kvs, b, t, h, D, l, R, rfl, _⟩ := h
    rfl
  obtain ⟨d, e, p, kvs, b, t, h, D, l, R, rfl, hd, he, hp, hF, hl, c1, c2, k⟩ := h
  have hu := hu_of hr
  refine ⟨_, pss_one (ps_if (PW.pt (pw_or (pt_cmp (pc_dnotin hu (pv 1) (pv 0))) (pw_or1 (pt_val (pe_meth (pv 2) TP.cl DC.meth DC.ok hr DC.b .nil pass0 (pa_cons (pe_dget hu (pv 0) (pv 1) (fun _ _ => rfl)) pa_nil))))))
    (pss_one (ps_dput hu (pv 0) (pv 1) (pv 2) rfl)) pss_nil), ?_⟩
  have he' : H e = some (.tup ((kT b t).map kV)) := he
  have put : ∀ H', Same H H' → R b t h D l → (∀ pa h' D' l', valV kvs (kT b t) = some (.ref pa) → PaAt CP H pa h' D' l' → bt h D h' D') → Q .non (upd H' d (.dT (putK kvs (kT b t) (.ref p)))) := fun H' s r hb => by
    have b1 : But d H (upd H' d (.dT (putK kvs (kT b t) (.ref p)))) := fun x o n q => by rw [upd_ne n]; exact s _ _ q
    refine k _ _ b1 upd_same ((hF.put hp r).but b1 hd) (fun k hk => ?_) (fun b' z' h' D' hc => ?_) ?_
    · rw [valV_put]
      split
      · rfl
      · exact hk
    · obtain ⟨pa, h2, D2, l2, c1, c2, c3⟩ := hc
      by_cases e : kT b t = kT b' z'
      · rw [← e] at c1
        exact ⟨p, h, D, l, by rw [valV_put, if_pos e.symm], hp.but b1 hd, (hb _ _ _ _ c1 c2).trans c3⟩
      · exact ⟨pa, h2, D2, l2, by rw [valV_put, if_neg (fun x => e x.symm)]; exact c1, c2.but b1 hd, c3⟩
    · exact ⟨p, h, D, l, by rw [valV_put, if_pos rfl], hp.but b1 hd, bt.refl _ _⟩
  obtain ⟨dx, pl, ys, g1, g2, g3⟩ := id hp
  refine ⟨_, rfl, _, rfl, d, _, rfl, DGet.t hd he', ?_⟩
  cases ev : valV kvs (kT b t) with
  | none => exact ⟨true, rfl, iteT (iteT ⟨_, rfl, _, rfl, _, rfl, d, _, rfl, DPut.t hd he' (szl (by omega)), put H (Same.refl H) (c2 ev) (fun _ _ _ _ z => by rw [ev] at z; cases z)⟩)⟩
  | some v =>
    obtain ⟨pa, h2, D2, l2, rfl, hpa, hR⟩ := hF.get ev
    refine ⟨false, rfl, iteF ?_⟩
    have dg := DGet.t hd he'
    rw [ev] at dg
    refine ⟨_, rfl, p, dx, _, rfl, g1, pf_no, _, rfl, _, rfl, d, _, rfl, dg, p, pa, h, D, h2, D2, l, l2, rfl, hp, hpa, fun H1 s1 => ⟨_, rfl, ?_⟩⟩
    cases el : HT.lexLt [h, -D] [h2, -D2] with
    | true => exact iteT ⟨_, rfl, _, rfl, _, rfl, d, _, rfl, DPut.t (s1 _ _ hd) (s1 _ _ he') (szl (by omega)), put H1 s1 (c1 pa h2 D2 l2 ev hpa (lex_le el)) (fun pa' h' D' l' z q => by rw [ev] at z; cases z; obtain ⟨e1, e2⟩ := hpa.det q; rw [← e1, ← e2]; exact lex_bt el)⟩
    | false => exact iteF (k H1 kvs (s1.but d) (s1 _ _ hd) (hF.same s1) (fun _ h => h) (fun _ _ _ _ c => c.same s1) ⟨pa, h2, D2, l2, ev, hpa.same s1, lex_nbt el⟩)
end
end PN
namespace PN
open PySem PySem.Spec PyProof.Rows L2 LayT
/-! ### paths between gates -/
abbrev md (x : Str) : Prop := x ≠ out
structure OkR (t : PL) (rank : Str → Nat) : Prop where
  hpos : ∀ q ∈ t.ws, 0 ≤ q.2.2
  dout : t.d out = 0
  rk : ∀ b n, Zr t.ws out (fun _ => 0) b n → rank b < rank n
theorem OkR.rt {t : PL} {rank : Str → Nat} (r : OkR t rank) (o : OkPl t) : Rt t.ks t.d t.ws out := ⟨o.ends, o.pos, r.dout, o.out, r.hpos, rank, r.rk⟩
def ROk (t : PL) (L : Nat) : RR := fun b z h D l => Wk t.ws t.d md b l z h D ∧ l.length ≤ L
def RIn (t : PL) (L : Nat) (x : Str) : RR := fun b z h D l => Wk t.ws t.d md b l z h D ∧ l.length ≤ 2 * L ∧ (b = x ∨ z = x → l.length ≤ L)
theorem iV_len {l : List Nat} : (iV l).length = l.length := List.length_map _
theorem iV_app {l l2 : List Nat} : iV (l ++ l2) = iV l ++ iV l2 := List.map_append
/-- all walks whose middles M tells are covered -/
def Full (CP : Addr) (t : PL) (M : Str → Prop) (H : Hp) (kvs : List (List Key × V)) : Prop := ∀ b p z h D, Wk t.ws t.d M b p z h D → Cov CP H kvs b z h D
theorem wk_keys {t : PL} (o : OkPl t) {b z : Str} {p : List Nat} {h D : Int} (w : Wk t.ws t.d md b p z h D) : Wk t.ws t.d (fun x => x ≠ out ∧ x ∈ t.ks) b p z h D := by
  induction w with
  | one h => exact .one h
  | cons h0 hm r ih => exact .cons h0 ⟨hm, (o.ends _ (List.mem_of_getElem? h0)).2⟩ ih
def CM (CP : Addr) (G : Hp) (kvs : List (List Key × V)) (G' : Hp) (kvs' : List (List Key × V)) : Prop := ∀ b z h D, Cov CP G kvs b z h D → Cov CP G' kvs' b z h D
theorem CM.trans {CP : Addr} {G G1 G2 : Hp} {k k1 k2 : List (List Key × V)} (a : CM CP G k G1 k1) (b : CM CP G1 k1 G2 k2) : CM CP G k G2 k2 := fun x z h D c => b _ _ _ _ (a x z h D c)
def Done (CP : Addr) (dn : Int) (n : Str) (G6 : Hp) (kvs : List (List Key × V)) (xs1 xs2 : List V) (a a2 : Nat) (G : Hp) (kvs' : List (List Key × V)) : Prop :=
  ∀ (i i2 : Nat) (b z : Str) (q1 q2 : Addr) (h1 D1 h2 D2 : Int), (i < a ∨ (i = a ∧ i2 < a2)) → xs1[i]? = some (.ref q1) → xs2[i2]? = some (.ref q2) → G6 q1 = some (.tup [.str b, .str n]) → G6 q2 = some (.tup [.str n, .str z]) →
    Cov CP G6 kvs b n h1 D1 → Cov CP G6 kvs n z h2 D2 → Cov CP G kvs' b z (h1 + h2) (D1 + D2 - dn)
section
variable {CP : Addr} {dn : Int} {n : Str} {G6 G G' : Hp} {kvs k1 k2 : List (List Key × V)} {xs1 xs2 : List V} {a a2 : Nat}
theorem Done.start : Done CP dn n G6 kvs xs1 xs2 0 0 G k1 := fun i i2 b z q1 q2 h1 D1 h2 D2 h => by omega
theorem Done.mono (d : Done CP dn n G6 kvs xs1 xs2 a a2 G k1) (c : CM CP G k1 G' k2) : Done CP dn n G6 kvs xs1 xs2 a a2 G' k2 := fun i i2 b z q1 q2 h1 D1 h2 D2 h e1 e2 g1 g2 c1 c2 => c _ _ _ _ (d i i2 b z q1 q2 h1 D1 h2 D2 h e1 e2 g1 g2 c1 c2)
theorem Done.next (d : Done CP dn n G6 kvs xs1 xs2 a xs2.length G k1) : Done CP dn n G6 kvs xs1 xs2 (a + 1) 0 G k1 := fun i i2 b z q1 q2 h1 D1 h2 D2 h e1 e2 g1 g2 c1 c2 =>
  d i i2 b z q1 q2 h1 D1 h2 D2 (by have := (List.getElem?_eq_some_iff.mp e2).1; omega) e1 e2 g1 g2 c1 c2
theorem Done.step (d : Done CP dn n G6 kvs xs1 xs2 a a2 G k1) {b z : Str} {q1 q2 : Addr} (e1 : xs1[a]? = some (.ref q1)) (e2 : xs2[a2]? = some (.ref q2)) (g1 : G6 q1 = some (.tup [.str b, .str n])) (g2 : G6 q2 = some (.tup [.str n, .str z]))
    (h : ∀ h1 D1 h2 D2, Cov CP G6 kvs b n h1 D1 → Cov CP G6 kvs n z h2 D2 → Cov CP G k1 b z (h1 + h2) (D1 + D2 - dn)) : Done CP dn n G6 kvs xs1 xs2 a (a2 + 1) G k1 := fun i i2 b' z' q1' q2' h1 D1 h2 D2 hi e1' e2' g1' g2' c1 c2 => by
  by_cases c : i < a ∨ (i = a ∧ i2 < a2)
  · exact d i i2 b' z' q1' q2' h1 D1 h2 D2 c e1' e2' g1' g2' c1 c2
  · obtain ⟨rfl, rfl⟩ : i = a ∧ i2 = a2 := by omega
    rw [e1] at e1'; cases e1'
    rw [e2] at e2'; cases e2'
    rw [g1] at g1'; cases g1'
    rw [g2] at g2'; cases g2'
    exact h h1 D1 h2 D2 c1 c2
end
/-- a key of the dict -/
def KyAt (H : Hp) (kvs : List (List Key × V)) (x : V) (b z : Str) : Prop := ∃ q, x = .ref q ∧ H q = some (.tup [.str b, .str z]) ∧ (valV kvs (kT b z)).isSome = true
structure MkC (P : Program) (w : World) (K : PySem.W.Frag) (mg : Str → Option Value) (base : Heap) (C : Addr) (nm : Str) (ps : List Str) (k : Nat) (sp : Sp) (f : Addr) (fd : FuncData) : Prop where
  M : Mk K C f
  ok : FnOk P w K mg base CX0 k f fd ps sp
  b : Binds K fd ps []
  g : mg nm = some (.ref C)
section
variable {P : Program} {w : World} {K : PySem.W.Frag} {mg : Str → Option Value} {base : Heap} {C CP : Addr}
def spPaths (C CP : Addr) : Sp := fun vs H Q _ => ∃ (p : Addr) (t : PL) (rank : Str → Nat), vs = [.ref p] ∧ PlAt C H p t ∧ OkPl t ∧ t.ks.length ≤ 14 ∧ OkR t rank ∧
  ∀ r H' kvs, Same H H' → H' r = some (.dT kvs) → FdAt CP H' kvs (ROk t 16384) → Full CP t md H' kvs → Q (.ref r) H'
abbrev nPaths : List Str := ["plan", "found", "place", "begin", "to", "many", "middle", "before", "behind", "first", "second", "one", "other", "delay", "ends"]
theorem scPaths : FnScope nPaths ["plan"] (defScope sPaths) := ⟨rfl, rfl, rfl, by decide +kernel, rfl, by decide +kernel, by decide +kernel⟩
theorem ok_paths {fI fP f : Addr} {fdI fdP fd : FuncData} (F : Fun K "paths_of" "paths_of" sPaths f fd) (T : Txt K mg) (TP : TxtP K mg C) (TA : TxtPa K mg CP) (MP : MkC P w K mg base CP "Path" ["self", "held", "delay", "places"] 1 (spPI CP) fI fdI)
    (DP : Dfn P w K mg base "put_path" 2 ["found", "ends", "path"] (spPut CP) fP fdP) : FnOk P w K mg base CX0 3 f fd ["plan"] (spPaths C CP) := by
  refine F.ok scPaths (fun vs H Q E h => ?_) (fun cdv A outer s H vs Q E hr h => ?_)
  · obtain ⟨p, t, rank, rfl, _⟩ := h
    rfl
  obtain ⟨p, t, rank, rfl, hp, okp, hk14, okr, k⟩ := h
  have nd := scPaths.nd
  have rt := okr.rt okp
  have rends : ∀ {b z : Str} {l : List Nat} {h D : Int}, Wk t.ws t.d md b l z h D → b ∈ t.ks ∧ z ∈ t.ks := fun {b z l h D} w => by
    obtain ⟨⟨q, hq, rfl⟩, q2, hq2, rfl⟩ := w.ends
    exact ⟨(okp.ends q hq).1, (okp.ends q2 hq2).2⟩
  have hu := hu_of hr
  refine ⟨_, pss_cons (ps_set (i := 1) nd rfl (.inl rfl) pe_dnewT)
    (Evl.pss_cut (ps_for PassesOwn.never rfl (pi_enumT (by rfl) T.enumerate (pa_cons (pe_fld (pv 0) rfl) pa_nil)) (pgN4 K 2 3 4 5 nd)
      (pss_one (ps_expr (pcl DP hr (pa_cons (pv 1) (pa_cons (ptup (pa_cons (pv 3) (pa_cons (pv 4) pa_nil))) (pa_cons
        (pe_make MP.M MP.ok hr (by rfl) MP.g MP.b .nil pass0 (pa_cons (pv 5) (pa_cons (pe_op op_add (pe_dget hu (pe_fld (pv 0) rfl) (pv 3) (fun _ _ => rfl)) (pe_dget hu (pe_fld (pv 0) rfl) (pv 4) (fun _ _ => rfl))) (pa_cons (ptup (pa_cons (pv 2) pa_nil)) pa_nil)))) pa_nil)))))))
    (Evl.pss_cut (ps_lock (ps_for PassesOwn.never rfl (pi_keys (pe_fld (pv 0) rfl)) (pg_name (i := 6) nd rfl (.inr rfl))
      (pss_cons (ps_if (pt_cmpR op_eq (pv 6) (pgl T.O) (nomark _)) (pss_one ps_continue) pss_nil)
      (Evl.pss_cut (ps_lock (ps_setLc (i := 7) (own := [("ends", 14)]) (g := gName 14) (by rfl) nd rfl rfl (sw_true rfl rfl rfl (by decide +kernel)) (pi_keys (pv 1)) (blkOk_by (N := nPaths) (sc := defScope sPaths) (by decide +kernel))
          (fun _ _ _ _ _ => pg_name (i := 14) nd rfl (.inl rfl)) (fun _ _ _ _ _ => pts_one (pt_cmpR op_eq (pe_ix (ixT K) (pv 14) pe_int (fun _ _ => rfl)) (pv 6) (nomark _))) (fun _ _ _ _ _ => pv 14)))
      (Evl.pss_cut (ps_lock (ps_setLc (i := 8) (own := [("ends", 14)]) (g := gName 14) (by rfl) nd rfl rfl (sw_true rfl rfl rfl (by decide +kernel)) (pi_keys (pv 1)) (blkOk_by (N := nPaths) (sc := defScope sPaths) (by decide +kernel))
          (fun _ _ _ _ _ => pg_name (i := 14) nd rfl (.inl rfl)) (fun _ _ _ _ _ => pts_one (pt_cmpR op_eq (pe_ix (ixT K) (pv 14) pe_int (fun _ _ => rfl)) (pv 6) (nomark _))) (fun _ _ _ _ _ => pv 14)))
      (pss_one (ps_for PassesOwn.never rfl (pi_list (pv 7)) (pg_name (i := 9) nd rfl (.inl rfl))
        (pss_one (ps_for PassesOwn.never rfl (pi_list (pv 8)) (pg_name (i := 10) nd rfl (.inl rfl))
          (pss_cons (ps_par (i := 11) (j := 12) (by rfl) nd rfl rfl (by decide) rfl rfl (pa_cons (pe_dget hu (pv 1) (pv 9) (fun _ _ => rfl)) (pa_cons (pe_dget hu (pv 1) (pv 10) (fun _ _ => rfl)) pa_nil)) (by rfl))
          (pss_cons (ps_set (i := 13) nd rfl (.inl rfl) (pe_op op_sub (pe_op op_add (pe_fld (pv 11) rfl) (pe_fld (pv 12) rfl)) (pe_dget hu (pe_fld (pv 0) rfl) (pv 6) (fun _ _ => rfl))))
          (pss_one (ps_expr (pcl DP hr (pa_cons (pv 1) (pa_cons (ptup (pa_cons (pe_ix (ixT K) (pv 9) pe_int (fun _ _ => rfl)) (pa_cons (pe_ix (ixT K) (pv 10) pe_int (fun _ _ => rfl)) pa_nil))) (pa_cons
            (pe_make MP.M MP.ok hr (by rfl) MP.g MP.b .nil pass0 (pa_cons (pe_op op_add (pe_fld (pv 11) rfl) (pe_fld (pv 12) rfl)) (pa_cons (pv 13) (pa_cons (pe_op op_catT (pe_fld (pv 11) rfl) (pe_fld (pv 12) rfl)) pa_nil)))) pa_nil)))))))))))))))))
    (pss_one (ps_ret (pv 1))))), ?_⟩
  obtain ⟨dx, da, wa, xs, h1, h2, h3, h4⟩ := id hp
  have sM : ∀ {G G' : Hp} {x dy : Addr}, G x = none → G dy = none → But x (upd (upd G dy (.own x)) x (.ins CP dy [])) G' → Same G G' := fun {G G' x dy} nx ny b b' o e =>
    b b' o (ne_of_none e nx) (by rw [upd_ne (ne_of_none e nx), upd_ne (ne_of_none e ny)]; exact e)
  have hkk : ∀ {G : Hp} {kvs : List (List Key × V)} {L : Nat} , FdAt CP G kvs (ROk t L) → kvs.length ≤ 1000 := fun {G kvs L} h => by
    have h1 := h.len (ks := t.ks) (fun b z hh D l r => rends r.1)
    have h2 : t.ks.length * t.ks.length ≤ 14 * 14 := Nat.mul_le_mul hk14 hk14
    omega
  intro F0 nF
  have s0 := same_upd (o := HO.dT []) nF
  have g0 : upd H F0 (.dT []) F0 = some (.dT []) := upd_same
  generalize upd H F0 (.dT []) = G0 at s0 g0 ⊢
  refine ⟨fun σ' G => ∃ (o2 o3 o4 o5 : Option V) (kvs : List (List Key × V)), σ' = [some (.ref p), some (.ref F0), o2, o3, o4, o5, none, none, none, none, none, none, none, none, none] ∧ Same H G ∧ G F0 = some (.dT kvs) ∧ FdAt CP G kvs (ROk t 1) ∧ Full CP t (fun x => x ≠ out ∧ x ∈ t.ks.take 0) G kvs, ?_, ?_⟩
  · refine ⟨_, rfl, p, C, dx, _, _, rfl, s0 _ _ h1, TP.cl, TP.nW, fld_w, wa, xs, rfl, SqT.of (s0 _ _ h3), for_it (walk_enumT (K := K) (a := wa) (xs := xs)) (fun j σ' G => ∃ (o2 o3 o4 o5 : Option V) (kvs : List (List Key × V)), σ' = [some (.ref p), some (.ref F0), o2, o3, o4, o5, none, none, none, none, none, none, none, none, none] ∧ Same H G ∧ G F0 = some (.dT kvs) ∧ FdAt CP G kvs (ROk t 1) ∧ ∀ i q, i < j → t.ws[i]? = some q → Cov CP G kvs q.1 q.2.1 q.2.2 (t.d q.1 + t.d q.2.1))
      ⟨_, _, _, _, [], rfl, s0, g0, FdAt.nil, fun i q h => absurd h (Nat.not_lt_zero _)⟩ (fun j σ' G3 _ hh => by obtain ⟨_, _, _, _, _, _, h, _⟩ := hh; exact SqT.of (h _ _ h3)) ?_ ?_⟩
    · rintro j y σ' G3 G4 hj ⟨o2, o3, o4, o5, kvs, rfl, s3, g3, hF, hC⟩ ⟨Tt, x1, x2, rfl, nT, rfl, e1, e2⟩
      cases e1
      obtain ⟨q, hq, aq, rfl, haq⟩ := h4.at e2
      have hqm := List.mem_of_getElem? hq
      obtain ⟨k1, k2⟩ := okp.ends q hqm
      have sT := same_upd (o := HO.tup [V.int (j : Nat), V.ref aq]) nT
      have s4 := s3.trans sT
      have hF4 := hF.same sT
      have hC4 : ∀ i q, i < j → t.ws[i]? = some q → Cov CP (upd G3 Tt (.tup [V.int (j : Nat), V.ref aq])) kvs q.1 q.2.1 q.2.2 (t.d q.1 + t.d q.2.1) := fun i q h e => (hC i q h e).same sT
      have g4 := sT _ _ g3
      have hTt : upd G3 Tt (.tup [V.int (j : Nat), V.ref aq]) Tt = some (.tup [V.int (j : Nat), V.ref aq]) := upd_same
      generalize upd G3 Tt (.tup [V.int (j : Nat), V.ref aq]) = G4 at s4 hF4 hC4 g4 hTt ⊢
      refine ⟨Tt, _, rfl, SqT.of hTt, rfl, _, _, rfl, _, _, rfl, aq, _, rfl, SqT.of (s4 _ _ haq), rfl, _, _, rfl, _, _, rfl, _, _, rfl, rfl, rfl, ?_⟩
      refine ⟨_, rfl, _, rfl, _, rfl, rd_t2 fun e G5 s5 he => ?_⟩
      have s45 := s4.trans s5
      have dgd : ∀ n ∈ t.ks, DGet G5 da (.str n) (some (.int (t.d n))) := fun n hn => by
        rw [← kN_get (wf := t.d) hn]
        exact .inl ⟨_, Sum.inr n, .inl (s45 _ _ h2), rfl, rfl⟩
      refine ⟨_, rfl, _, rfl, p, C, dx, _, _, rfl, s45 _ _ h1, TP.cl, TP.nD, fld_d, _, rfl, da, _, rfl, dgd _ k1, _, rfl, p, C, dx, _, _, rfl, s45 _ _ h1, TP.cl, TP.nD, fld_d, _, rfl, da, _, rfl, dgd _ k2, _, _, rfl, rfl, ?_⟩
      refine ⟨_, rfl, rd_t1 fun pl G6 s6 hpl => ?_⟩
      intro x dy nx ny nxy
      refine ⟨x, dy, _, _, pl, rfl, upd_same, fun G7 b7 h7 => ⟨rfl, ?_⟩⟩
      have s67 := sM nx ny b7
      have s47 := (s5.trans s6).trans s67
      have g7 := s47 _ _ g4
      have hF7 := hF4.same s47
      have w1 : Wk t.ws t.d md q.1 [j] q.2.1 q.2.2 (t.d q.1 + t.d q.2.1) := .one hq
      refine ⟨F0, e, x, kvs, q.1, q.2.1, q.2.2, t.d q.1 + t.d q.2.1, [j], ROk t 1, rfl, g7, (s6.trans s67) _ _ he, ⟨dy, pl, _, h7, s67 _ _ hpl, rfl, by simp⟩, hF7, hkk hF7, ?_, ?_, fun G8 kvs' b8 g8 hF8 _ mo co => ?_⟩
      · intro pa h' D' l' _ _ _
        exact ⟨w1, Nat.le_refl _⟩
      · intro _
        exact ⟨w1, Nat.le_refl _⟩
      · refine ⟨_, _, _, _, kvs', rfl, ((s4.trans s47).but F0 |>.trans b8).same nF, g8, hF8, fun i q' hi hq' => ?_⟩
        by_cases c : i < j
        · exact mo _ _ _ _ ((hC4 i q' c hq').same s47)
        · obtain rfl : i = j := by omega
          rw [hq] at hq'; cases hq'
          exact co
    · rintro σ' G3 ⟨o2, o3, o4, o5, kvs, rfl, s3, g3, hF, hC⟩
      refine ⟨_, _, _, _, kvs, rfl, s3, g3, hF, fun b p z h D w => ?_⟩
      cases w with
      | @one i q hq => exact hC i q (by rw [h4.1]; exact (List.getElem?_eq_some_iff.mp hq).1) hq
      | cons h0 hm r => have := hm.2; simp at this
  rintro σ' G1 ⟨o2, o3, o4, o5, kvs1, rfl, s1, g1, hF1, hC1⟩
  have npF : p ≠ F0 := fun z => by rw [z, nF] at h1; cases h1
  have ndF : da ≠ F0 := fun z => by rw [z, nF] at h2; cases h2
  refine ⟨fun σ' G => ∃ (o6 o7 o8 o9 o10 o11 o12 o13 : Option V) (kvs : List (List Key × V)), σ' = [some (.ref p), some (.ref F0), o2, o3, o4, o5, o6, o7, o8, o9, o10, o11, o12, o13, none] ∧ Same H G ∧ G F0 = some (.dT kvs) ∧ FdAt CP G kvs (ROk t 16384) ∧ Full CP t md G kvs, ?_, ?_⟩
  · refine ⟨da, _, s1 _ _ h2, True.intro, fun od => ?_⟩
    have hf : upd G1 da (.frz od (.dK (kN t.ks t.d))) da = some (.frz od (.dK (kN t.ks t.d))) := upd_same
    have gf : upd G1 da (.frz od (.dK (kN t.ks t.d))) F0 = some (.dT kvs1) := by rw [upd_ne ndF.symm]; exact g1
    have hpf : upd G1 da (.frz od (.dK (kN t.ks t.d))) p = some (.ins C dx [(("delays" : Str), V.ref da), (("wires" : Str), V.ref wa)]) := by
      rw [upd_ne (fun z => by rw [z, h2] at h1; cases h1)]; exact s1 _ _ h1
    have hFf : FdAt CP (upd G1 da (.frz od (.dK (kN t.ks t.d)))) kvs1 (ROk t 1) := by
      refine ⟨hF1.1, fun kv hk => ?_⟩
      obtain ⟨b, z, pa, hh, D, l, e, ⟨dy, pl, ys, e1, e2, e3⟩, r⟩ := hF1.2 kv hk
      have hd1 := s1 _ _ h2
      exact ⟨b, z, pa, hh, D, l, e, ⟨dy, pl, ys, by rw [upd_ne (fun z => by rw [z, hd1] at e1; cases e1)]; exact e1, by rw [upd_ne (fun z => by rw [z, hd1] at e2; cases e2)]; exact e2, e3⟩, r⟩
    have hCf : Full CP t (fun x => x ≠ out ∧ x ∈ t.ks.take 0) (upd G1 da (.frz od (.dK (kN t.ks t.d)))) kvs1 := fun b p z h D w => by
      obtain ⟨pa, h', D', l, c1, ⟨dy, pl, ys, e1, e2, e3⟩, c3⟩ := hC1 b p z h D w
      have hd1 := s1 _ _ h2
      exact ⟨pa, h', D', l, c1, ⟨dy, pl, ys, by rw [upd_ne (fun z => by rw [z, hd1] at e1; cases e1)]; exact e1, by rw [upd_ne (fun z => by rw [z, hd1] at e2; cases e2)]; exact e2, e3⟩, c3⟩
    have hun : ∀ {G : Hp}, But F0 (upd G1 da (.frz od (.dK (kN t.ks t.d)))) G → Same H (upd G da (.dK (kN t.ks t.d))) := fun {G} b => by
      refine But.same (c := F0) (fun x o n e => ?_) nF
      by_cases c : x = da
      · rw [c, upd_same]; rw [c, h2] at e; exact e
      · rw [upd_ne c]
        exact b x o n (by rw [upd_ne c]; exact s1 _ _ e)
    generalize upd G1 da (.frz od (.dK (kN t.ks t.d))) = Hf at hf gf hpf hFf hCf hun ⊢
    refine ⟨_, rfl, p, C, dx, _, _, rfl, hpf, TP.cl, TP.nD, fld_d, da, od, rfl, .inl ⟨_, hf, for_it (walk_keys (d := da) (o := od) (kvs := kN t.ks t.d)) (fun j σ' G => ∃ (o6 o7 o8 o9 o10 o11 o12 o13 : Option V) (kvs : List (List Key × V)), σ' = [some (.ref p), some (.ref F0), o2, o3, o4, o5, o6, o7, o8, o9, o10, o11, o12, o13, none] ∧
        But F0 Hf G ∧ G F0 = some (.dT kvs) ∧ FdAt CP G kvs (ROk t (2 ^ j)) ∧ Full CP t (fun x => x ≠ out ∧ x ∈ t.ks.take j) G kvs)
      ⟨_, _, _, _, _, _, _, _, kvs1, rfl, fun x o n e => e, gf, hFf, hCf⟩ (fun j σ' G _ hh => by obtain ⟨_, _, _, _, _, _, _, _, _, _, h, _⟩ := hh; exact h _ _ ndF hf) ?_ ?_⟩⟩
    · rintro j y σ' G3 G4 hj ⟨o6, o7, o8, o9, o10, o11, o12, o13, kvs, rfl, b3, g3, hF, hC3⟩ ⟨eG, ky, vy, hky, rfl⟩
      obtain rfl : G3 = G4 := eG.symm
      obtain ⟨n, hn, rfl⟩ : ∃ n, t.ks[j]? = some n ∧ ky = Sum.inr n := by
        unfold kN at hky
        rw [List.getElem?_map] at hky
        obtain ⟨n, hn, e⟩ := Option.map_eq_some_iff.mp hky
        cases e
        exact ⟨n, hn, rfl⟩
      have hjl : j < t.ks.length := (List.getElem?_eq_some_iff.mp hn).1
      have hnk := List.mem_of_getElem? hn
      have hL : 2 ^ j ≤ 8192 := Nat.le_trans (Nat.pow_le_pow_right (by decide) (show j ≤ 13 by omega)) (by decide)
      have hL2 : 2 ^ (j + 1) = 2 * 2 ^ j := by rw [Nat.pow_succ, Nat.mul_comm]
      refine ⟨.str n, rfl, rfl, _, rfl, ?_⟩
      rw [dec_str]
      by_cases hno : n = out
      · rw [decide_eq_true hno]
        exact iteT ⟨_, _, _, _, _, _, _, _, kvs, rfl, b3, g3, hF.imp fun _ _ _ _ _ r => ⟨r.1, by have := r.2; omega⟩, fun b p z h D w => hC3 b p z h D (w.mono fun x hx => ⟨hx.1, by
          have h2 := hx.2
          rw [take_succ_at hn, List.mem_append, List.mem_singleton] at h2
          exact h2.resolve_right fun e => hx.1 (e.trans hno)⟩)⟩
      rw [decide_eq_false hno]
      refine iteF ?_
      have hkl := hkk hF
      refine ⟨fun σ' G => ∃ (bf : Addr) (xs1 : List V), σ' = [some (.ref p), some (.ref F0), o2, o3, o4, o5, some (.str n), some (.ref bf), o8, o9, o10, o11, o12, o13, none] ∧ Same G3 G ∧ G bf = some (.lst xs1) ∧ (∀ x ∈ xs1, ∃ (b : Str) (q : Addr), x = .ref q ∧ G q = some (.tup [.str b, .str n]) ∧ (valV kvs (kT b n)).isSome = true) ∧ ∀ b, (valV kvs (kT b n)).isSome = true → ∃ q, V.ref q ∈ xs1 ∧ G q = some (.tup [.str b, .str n]), ?_, ?_⟩
      · have gF : G3 F0 = some (.dT kvs) := g3
        refine ⟨F0, _, gF, True.intro, fun oF => ?_⟩
        have hfF : upd G3 F0 (.frz oF (.dT kvs)) F0 = some (.frz oF (.dT kvs)) := upd_same
        have hunF : ∀ {H2 : Hp}, Same (upd G3 F0 (.frz oF (.dT kvs))) H2 → Same G3 (upd H2 F0 (.dT kvs)) := fun s2 => unlock gF s2
        generalize upd G3 F0 (.frz oF (.dT kvs)) = HF at hfF hunF ⊢
        refine ⟨_, rfl, F0, oF, rfl, .inr ⟨kvs, hfF, fun c nc => lc_it (walk_keysT (d := F0) (o := oF) (kvs := kvs)) (fun i G => Same HF G ∧ ∃ ys, G c = some (.lst ys) ∧ ys.length ≤ i ∧ (∀ x ∈ ys, ∃ (b : Str) (q : Addr), x = .ref q ∧ q ≠ c ∧ G q = some (.tup [.str b, .str n]) ∧ (valV kvs (kT b n)).isSome = true) ∧ ∀ i' b v, i' < i → kvs[i']? = some (kT b n, v) → ∃ q, V.ref q ∈ ys ∧ G q = some (.tup [.str b, .str n]))
          ⟨same_upd nc, [], upd_same, Nat.le_refl _, (fun x h => by cases h), fun i' b v h => absurd h (Nat.not_lt_zero _)⟩ (fun i G _ hh => hh.1 _ _ hfF) ?_ ?_⟩⟩
        · rintro i y GX GY hi ⟨sG, ys, gc, hyl, hys, hya⟩ ⟨rfl, ky, vy, q, hky, rfl, hq⟩
          obtain ⟨b, z, pa, hh, D, l, e, _, _⟩ := hF.2 _ (List.mem_of_getElem? hky)
          rw [Prod.mk.injEq] at e
          obtain ⟨rfl, rfl⟩ := e
          have hq' : GY q = some (.tup [.str b, .str z]) := hq
          have hs : (valV kvs (kT b z)).isSome = true := mem_valV (List.mem_of_getElem? hky)
          refine ⟨rfl, _, rfl, q, _, 1, _, rfl, rfl, SqT.of hq', rfl, .str n, rfl, rfl, _, rfl, ?_⟩
          rw [dec_str]
          by_cases c1 : z = n
          · rw [decide_eq_true c1]
            subst c1
            have nqc : q ≠ c := fun z => by rw [z, gc] at hq'; cases hq'
            refine iteT ⟨_, rfl, ys, gc, szl (by have := hkl; omega), sG.mut nc, ys ++ [.ref q], upd_same, by simp; omega, fun x hx => ?_, fun i' b' v' hi' hk' => ?_⟩
            case refine_2 =>
              by_cases ci : i' < i
              · obtain ⟨q', m1, m2⟩ := hya i' b' v' ci hk'
                exact ⟨q', List.mem_append_left _ m1, by rw [upd_ne (fun z => by rw [z, gc] at m2; cases m2)]; exact m2⟩
              · obtain rfl : i' = i := by omega
                rw [hky] at hk'
                have ek := (Prod.mk.inj (Option.some.inj hk')).1
                obtain ⟨e1, e2⟩ := kT_inj ek
                refine ⟨q, List.mem_append_right _ (List.mem_singleton.mpr rfl), ?_⟩
                rw [upd_ne nqc, hq', e1]
            rcases List.mem_append.mp hx with hx | hx
            · obtain ⟨b', q', rfl, nq', hq'', hs'⟩ := hys x hx
              exact ⟨b', q', rfl, nq', by rw [upd_ne nq']; exact hq'', hs'⟩
            · rw [List.mem_singleton.mp hx]
              exact ⟨b, q, rfl, nqc, by rw [upd_ne nqc]; exact hq', hs⟩
          · rw [decide_eq_false c1]
            refine iteF ⟨sG, ys, gc, by omega, hys, fun i' b' v' hi' hk' => ?_⟩
            by_cases ci : i' < i
            · exact hya i' b' v' ci hk'
            · obtain rfl : i' = i := by omega
              rw [hky] at hk'
              have ek := (Prod.mk.inj (Option.some.inj hk')).1
              obtain ⟨e1, e2⟩ := kT_inj ek
              exact absurd e2 c1
        · rintro GX ⟨sG, ys, gc, hyl, hys, hya⟩
          have gFX := sG _ _ hfF
          have ncF : c ≠ F0 := fun z => by rw [z, gFX] at gc; cases gc
          refine ⟨gFX, c, ys, rfl, hunF sG, by rw [upd_ne ncF]; exact gc, fun x hx => ?_, fun b hb => ?_⟩
          case refine_2 =>
            obtain ⟨v, hv⟩ := Option.isSome_iff_exists.mp hb
            obtain ⟨i', hi', e⟩ := List.mem_iff_getElem.mp (valV_mem hv)
            obtain ⟨q, m1, m2⟩ := hya i' b v hi' (by rw [List.getElem?_eq_getElem hi', e])
            exact ⟨q, m1, by rw [upd_ne (fun z => by rw [z, gFX] at m2; cases m2)]; exact m2⟩
          obtain ⟨b', q', e, nq', hq'', hs'⟩ := hys x hx
          exact ⟨b', q', e, by rw [upd_ne (fun z => by rw [z, gFX] at hq''; cases hq'')]; exact hq'', hs'⟩
      rintro σ' G5 ⟨bf, xs1, rfl, s35, hbf, hxs1, hya1⟩
      refine ⟨fun σ' G => ∃ (bd : Addr) (xs2 : List V), σ' = [some (.ref p), some (.ref F0), o2, o3, o4, o5, some (.str n), some (.ref bf), some (.ref bd), o9, o10, o11, o12, o13, none] ∧ Same G5 G ∧ G bd = some (.lst xs2) ∧ (∀ x ∈ xs2, ∃ (b : Str) (q : Addr), x = .ref q ∧ G q = some (.tup [.str n, .str b]) ∧ (valV kvs (kT n b)).isSome = true) ∧ ∀ b, (valV kvs (kT n b)).isSome = true → ∃ q, V.ref q ∈ xs2 ∧ G q = some (.tup [.str n, .str b]), ?_, ?_⟩
      · have gF : G5 F0 = some (.dT kvs) := s35 _ _ g3
        refine ⟨F0, _, gF, True.intro, fun oF => ?_⟩
        have hfF : upd G5 F0 (.frz oF (.dT kvs)) F0 = some (.frz oF (.dT kvs)) := upd_same
        have hunF : ∀ {H2 : Hp}, Same (upd G5 F0 (.frz oF (.dT kvs))) H2 → Same G5 (upd H2 F0 (.dT kvs)) := fun s2 => unlock gF s2
        generalize upd G5 F0 (.frz oF (.dT kvs)) = HF at hfF hunF ⊢
        refine ⟨_, rfl, F0, oF, rfl, .inr ⟨kvs, hfF, fun c nc => lc_it (walk_keysT (d := F0) (o := oF) (kvs := kvs)) (fun i G => Same HF G ∧ ∃ ys, G c = some (.lst ys) ∧ ys.length ≤ i ∧ (∀ x ∈ ys, ∃ (b : Str) (q : Addr), x = .ref q ∧ q ≠ c ∧ G q = some (.tup [.str n, .str b]) ∧ (valV kvs (kT n b)).isSome = true) ∧ ∀ i' b v, i' < i → kvs[i']? = some (kT n b, v) → ∃ q, V.ref q ∈ ys ∧ G q = some (.tup [.str n, .str b]))
          ⟨same_upd nc, [], upd_same, Nat.le_refl _, (fun x h => by cases h), fun i' b v h => absurd h (Nat.not_lt_zero _)⟩ (fun i G _ hh => hh.1 _ _ hfF) ?_ ?_⟩⟩
        · rintro i y GX GY hi ⟨sG, ys, gc, hyl, hys, hya⟩ ⟨rfl, ky, vy, q, hky, rfl, hq⟩
          obtain ⟨b, z, pa, hh, D, l, e, _, _⟩ := hF.2 _ (List.mem_of_getElem? hky)
          rw [Prod.mk.injEq] at e
          obtain ⟨rfl, rfl⟩ := e
          have hq' : GY q = some (.tup [.str b, .str z]) := hq
          have hs : (valV kvs (kT b z)).isSome = true := mem_valV (List.mem_of_getElem? hky)
          refine ⟨rfl, _, rfl, q, _, 0, _, rfl, rfl, SqT.of hq', rfl, .str n, rfl, rfl, _, rfl, ?_⟩
          rw [dec_str]
          by_cases c1 : b = n
          · rw [decide_eq_true c1]
            subst c1
            have nqc : q ≠ c := fun z => by rw [z, gc] at hq'; cases hq'
            refine iteT ⟨_, rfl, ys, gc, szl (by have := hkl; omega), sG.mut nc, ys ++ [.ref q], upd_same, by simp; omega, fun x hx => ?_, fun i' b' v' hi' hk' => ?_⟩
            case refine_2 =>
              by_cases ci : i' < i
              · obtain ⟨q', m1, m2⟩ := hya i' b' v' ci hk'
                exact ⟨q', List.mem_append_left _ m1, by rw [upd_ne (fun z => by rw [z, gc] at m2; cases m2)]; exact m2⟩
              · obtain rfl : i' = i := by omega
                rw [hky] at hk'
                have ek := (Prod.mk.inj (Option.some.inj hk')).1
                obtain ⟨e1, e2⟩ := kT_inj ek
                refine ⟨q, List.mem_append_right _ (List.mem_singleton.mpr rfl), ?_⟩
                rw [upd_ne nqc, hq', e2]
            rcases List.mem_append.mp hx with hx | hx
            · obtain ⟨b', q', rfl, nq', hq'', hs'⟩ := hys x hx
              exact ⟨b', q', rfl, nq', by rw [upd_ne nq']; exact hq'', hs'⟩
            · rw [List.mem_singleton.mp hx]
              exact ⟨z, q, rfl, nqc, by rw [upd_ne nqc]; exact hq', hs⟩
          · rw [decide_eq_false c1]
            refine iteF ⟨sG, ys, gc, by omega, hys, fun i' b' v' hi' hk' => ?_⟩
            by_cases ci : i' < i
            · exact hya i' b' v' ci hk'
            · obtain rfl : i' = i := by omega
              rw [hky] at hk'
              have ek := (Prod.mk.inj (Option.some.inj hk')).1
              obtain ⟨e1, e2⟩ := kT_inj ek
              exact absurd e1 c1
        · rintro GX ⟨sG, ys, gc, hyl, hys, hya⟩
          have gFX := sG _ _ hfF
          have ncF : c ≠ F0 := fun z => by rw [z, gFX] at gc; cases gc
          refine ⟨gFX, c, ys, rfl, hunF sG, by rw [upd_ne ncF]; exact gc, fun x hx => ?_, fun b hb => ?_⟩
          case refine_2 =>
            obtain ⟨v, hv⟩ := Option.isSome_iff_exists.mp hb
            obtain ⟨i', hi', e⟩ := List.mem_iff_getElem.mp (valV_mem hv)
            obtain ⟨q, m1, m2⟩ := hya i' b v hi' (by rw [List.getElem?_eq_getElem hi', e])
            exact ⟨q, m1, by rw [upd_ne (fun z => by rw [z, gFX] at m2; cases m2)]; exact m2⟩
          obtain ⟨b', q', e, nq', hq'', hs'⟩ := hys x hx
          exact ⟨b', q', e, by rw [upd_ne (fun z => by rw [z, gFX] at hq''; cases hq'')]; exact hq'', hs'⟩
      rintro σ' G6 ⟨bd, xs2, rfl, s56, hbd, hxs2, hya2⟩
      have s36 := s35.trans s56
      have mono0 : ∀ k, (valV kvs k).isSome = true → (valV kvs k).isSome = true := fun _ h => h
      have b6 : But F0 Hf G6 := b3.trans (s36.but F0)
      have g6 := s36 _ _ g3
      have hF6 := (hF.same s36).imp (R' := RIn t (2 ^ j) n) fun _ _ _ _ _ r => ⟨r.1, by have := r.2; omega, fun _ => r.2⟩
      have hp6 := b6 _ _ npF hpf
      have hd6 := b6 _ _ ndF hf
      have hbf6 := s56 _ _ hbf
      have nbf : bf ≠ F0 := fun z => by rw [z, g6] at hbf6; cases hbf6
      have nbd : bd ≠ F0 := fun z => by rw [z, g6] at hbd; cases hbd
      have inv0 : ∀ (σ0 : Option V → Option V → Option V → Option V → Option V → L2.St), True := fun _ => True.intro
      refine ⟨_, rfl, bf, rfl, ⟨_, SqL.of hbf6⟩, for_it (walk_list (K := K) (a := bf) (xs := xs1)) (fun a σ' G => ∃ (o9 o10 o11 o12 o13 : Option V) (kvs' : List (List Key × V)), σ' = [some (.ref p), some (.ref F0), o2, o3, o4, o5, some (.str n), some (.ref bf), some (.ref bd), o9, o10, o11, o12, o13, none] ∧
          But F0 G6 G ∧ G F0 = some (.dT kvs') ∧ FdAt CP G kvs' (RIn t (2 ^ j) n) ∧ (∀ k, (valV kvs k).isSome = true → (valV kvs' k).isSome = true) ∧ CM CP G6 kvs G kvs' ∧ Done CP (t.d n) n G6 kvs xs1 xs2 a 0 G kvs')
        ⟨_, _, _, _, _, kvs, rfl, fun x o n e => e, g6, hF6, mono0, fun _ _ _ _ c => c, Done.start⟩ (fun a σ' G _ hh => by obtain ⟨_, _, _, _, _, _, _, h, _⟩ := hh; exact SqL.of (h _ _ nbf hbf6)) ?_ ?_⟩
      · rintro a y1 σ' G7 G8 ha ⟨o9, o10, o11, o12, o13, kvs7, rfl, b7, g7, hF7, mo7, cm7, dn7⟩ ⟨eH, ey1⟩
        obtain rfl : G7 = G8 := eH.symm
        obtain ⟨b, q1, rfl, hq1, hs1⟩ := hxs1 y1 (List.mem_of_getElem? ey1)
        have hq16 := s56 _ _ hq1
        have nq1 : q1 ≠ F0 := fun z => by rw [z, g6] at hq16; cases hq16
        refine ⟨_, rfl, bd, rfl, ⟨_, SqL.of (b7 _ _ nbd hbd)⟩, for_it (walk_list (K := K) (a := bd) (xs := xs2)) (fun a2 σ' G => ∃ (o10 o11 o12 o13 : Option V) (kvs' : List (List Key × V)), σ' = [some (.ref p), some (.ref F0), o2, o3, o4, o5, some (.str n), some (.ref bf), some (.ref bd), some (.ref q1), o10, o11, o12, o13, none] ∧
            But F0 G6 G ∧ G F0 = some (.dT kvs') ∧ FdAt CP G kvs' (RIn t (2 ^ j) n) ∧ (∀ k, (valV kvs k).isSome = true → (valV kvs' k).isSome = true) ∧ CM CP G6 kvs G kvs' ∧ Done CP (t.d n) n G6 kvs xs1 xs2 a a2 G kvs')
          ⟨_, _, _, _, kvs7, rfl, b7, g7, hF7, mo7, cm7, dn7⟩ (fun a σ' G _ hh => by obtain ⟨_, _, _, _, _, _, h, _⟩ := hh; exact SqL.of (h _ _ nbd hbd)) ?_ ?_⟩
        · rintro a2 y2 σ' G9 G10 ha2 ⟨o10, o11, o12, o13, kvs9, rfl, b9, g9, hF9, mo9, cm9, dn9⟩ ⟨eH, ey2⟩
          obtain rfl : G9 = G10 := eH.symm
          obtain ⟨z, q2, rfl, hq2, hs2⟩ := hxs2 y2 (List.mem_of_getElem? ey2)
          have nq2 : q2 ≠ F0 := fun z => by rw [z, g6] at hq2; cases hq2
          have hq19 := b9 _ _ nq1 hq16
          have hq29 := b9 _ _ nq2 hq2
          obtain ⟨v1, ev1⟩ := Option.isSome_iff_exists.mp (mo9 _ hs1)
          obtain ⟨v2, ev2⟩ := Option.isSome_iff_exists.mp (mo9 _ hs2)
          obtain ⟨pa1, ha1, D1, l1, rfl, hp1, hr1, hl1, hm1⟩ := hF9.get ev1
          obtain ⟨pa2, ha2, D2, l2, rfl, hp2, hr2, hl2, hm2⟩ := hF9.get ev2
          have hl1' := hm1 (.inr rfl)
          have hl2' := hm2 (.inl rfl)
          have dg1 := DGet.t g9 (b := q1) (k := kT b n) hq19
          have dg2 := DGet.t g9 (b := q2) (k := kT n z) hq29
          rw [ev1] at dg1
          rw [ev2] at dg2
          have hp9 := b9 _ _ npF hp6
          have hd9 := b9 _ _ ndF hd6
          have dgn : DGet G9 da (.str n) (some (.int (t.d n))) := by
            rw [← kN_get (wf := t.d) hnk]
            exact .inl ⟨_, Sum.inr n, .inr ⟨od, hd9⟩, rfl, rfl⟩
          obtain ⟨dy1, pl1, ys1, e11, e12, e13, e14⟩ := id hp1
          have n13 : ys1.length = l1.length := by rw [e13, iV_len]
          obtain ⟨dy2, pl2, ys2, e21, e22, e23, e24⟩ := id hp2
          have n23 : ys2.length = l2.length := by rw [e23, iV_len]
          refine ⟨_, rfl, _, rfl, F0, _, rfl, dg1, _, rfl, _, rfl, F0, _, rfl, dg2, _, _, rfl, ?_⟩
          refine ⟨_, rfl, pa1, CP, dy1, _, _, rfl, e11, TA.cl, TA.nD, pf_D, _, rfl, pa2, CP, dy2, _, _, rfl, e21, TA.cl, TA.nD, pf_D, _, _, rfl, rfl, _, rfl, p, C, dx, _, _, rfl, hp9, TP.cl, TP.nD, fld_d, _, rfl, da, _, rfl, dgn, _, _, rfl, rfl, ?_⟩
          refine ⟨_, rfl, _, rfl, q1, _, 0, _, rfl, rfl, SqT.of hq19, rfl, _, rfl, q2, _, 1, _, rfl, rfl, SqT.of hq29, rfl, rd_t2 fun e GA sA he => ?_⟩
          refine ⟨_, rfl, pa1, CP, dy1, _, _, rfl, sA _ _ e11, TA.cl, TA.nh, pf_h, _, rfl, pa2, CP, dy2, _, _, rfl, sA _ _ e21, TA.cl, TA.nh, pf_h, _, _, rfl, rfl, _, rfl, ?_⟩
          refine ⟨_, rfl, pa1, CP, dy1, _, _, rfl, sA _ _ e11, TA.cl, TA.np, pf_p, _, rfl, pa2, CP, dy2, _, _, rfl, sA _ _ e21, TA.cl, TA.np, pf_p, pl1, pl2, ys1, ys2, rfl, rfl, SqT.of (sA _ _ e12), SqT.of (sA _ _ e22), e14, sz (by omega), (fun e => absurd e e24), fun _ plN npl => ?_⟩
          have sB := same_upd (o := HO.tup (ys1 ++ ys2)) npl
          have hplN : upd GA plN (.tup (ys1 ++ ys2)) plN = some (.tup (ys1 ++ ys2)) := upd_same
          generalize upd GA plN (.tup (ys1 ++ ys2)) = GB at sB hplN ⊢
          intro x dy nx ny nxy
          refine ⟨x, dy, _, _, plN, rfl, upd_same, fun GC bC hC => ⟨rfl, ?_⟩⟩
          have sC := sM nx ny bC
          have s9C := (sA.trans sB).trans sC
          have gC := s9C _ _ g9
          have hFC := hF9.same s9C
          have hj := hr1.join (show md n from hno) hr2
          have hjl : (l1 ++ l2).length = l1.length + l2.length := List.length_append
          have hkC : kvs9.length ≤ 1000 := by
            have h1 := hFC.len (ks := t.ks) (fun b z hh D l r => rends r.1)
            have h2 : t.ks.length * t.ks.length ≤ 14 * 14 := Nat.mul_le_mul hk14 hk14
            omega
          refine ⟨F0, e, x, kvs9, b, z, ha1 + ha2, D1 + D2 - t.d n, l1 ++ l2, RIn t (2 ^ j) n, rfl, gC, (sB.trans sC) _ _ he, ⟨dy, plN, _, hC, sC _ _ hplN, by rw [iV_app, e13, e23], fun z => e14 (List.append_eq_nil_iff.mp z).1⟩, hFC, hkC, ?_, ?_, fun GD kvs' bD gD hFD moD cmD coD => ?_⟩
          · intro pa h' D' l' ev hpa hle
            refine ⟨hj, by omega, fun hor => ?_⟩
            exfalso
            rcases hor with rfl | rfl
            · have h1 := rt.loop hno hr1
              rw [ev2] at ev
              cases ev
              have := ((hp2.same s9C).det hpa).1
              omega
            · have h1 := rt.loop hno hr2
              rw [ev1] at ev
              cases ev
              have := ((hp1.same s9C).det hpa).1
              omega
          · intro ev
            refine ⟨hj, by omega, fun hor => ?_⟩
            exfalso
            rcases hor with rfl | rfl
            · rw [ev2] at ev; cases ev
            · rw [ev1] at ev; cases ev
          · have cm : CM CP G9 kvs9 GD kvs' := fun b z h D c => cmD b z h D (c.same s9C)
            refine ⟨_, _, _, _, kvs', rfl, (b9.trans (s9C.but F0)).trans bD, gD, hFD, (fun k hk => moD k (mo9 k hk)), cm9.trans cm, (dn9.mono cm).step ey1 ey2 hq16 hq2 fun h1 E1 h2 E2 c1 c2 => ?_⟩
            obtain ⟨pa', hh1, DD1, ll1, z1, z2, z3⟩ := cm9 _ _ _ _ c1
            obtain ⟨pb', hh2, DD2, ll2, y1, y2, y3⟩ := cm9 _ _ _ _ c2
            rw [ev1] at z1; cases z1
            rw [ev2] at y1; cases y1
            obtain ⟨rfl, rfl⟩ := hp1.det z2
            obtain ⟨rfl, rfl⟩ := hp2.det y2
            exact coD.weak (bt.add _ z3 y3)
        · rintro σ' G9 ⟨o10, o11, o12, o13, kvs9, rfl, b9, g9, hF9, mo9, cm9, dn9⟩
          exact ⟨_, _, _, _, _, kvs9, rfl, b9, g9, hF9, mo9, cm9, dn9.next⟩
      · rintro σ' G7 ⟨o9, o10, o11, o12, o13, kvs7, rfl, b7, g7, hF7, mo7, cm7, dn7⟩
        refine ⟨_, _, _, _, _, _, _, _, kvs7, rfl, b6.trans b7, g7, hF7.imp fun _ _ _ _ _ r => ⟨r.1, by have := r.2.1; omega⟩, fun b p z h D w => ?_⟩
        have sp := Wk.split (M := fun x => x ≠ out ∧ x ∈ t.ks.take j) (m := n) (fun {p h D} w => rt.loop hno (w.mono fun x hx => hx.1)) (fun x hx => ⟨hx.1, by rw [take_succ_at hn]; exact List.mem_append_left _ hx.2⟩) (fun x hx => by
          have h2 := hx.2
          rw [take_succ_at hn, List.mem_append, List.mem_singleton] at h2
          exact h2.elim (fun e => .inl ⟨hx.1, e⟩) .inr) w
        rcases sp with ⟨p', h', D', w', e⟩ | ⟨p1, h1, D1, p2, h2, D2, w1, w2, e⟩
        · exact (cm7 _ _ _ _ ((hC3 _ _ _ _ _ w').same s36)).weak e
        · have c1 := hC3 _ _ _ _ _ w1
          have c2 := hC3 _ _ _ _ _ w2
          obtain ⟨q1, m1, e1⟩ := hya1 b (by obtain ⟨_, _, _, _, z, _⟩ := c1; rw [z]; rfl)
          obtain ⟨q2, m2, e2⟩ := hya2 z (by obtain ⟨_, _, _, _, z, _⟩ := c2; rw [z]; rfl)
          obtain ⟨i1, hi1, ei1⟩ := List.mem_iff_getElem.mp m1
          obtain ⟨i2, hi2, ei2⟩ := List.mem_iff_getElem.mp m2
          exact (dn7 i1 i2 b z q1 q2 h1 D1 h2 D2 (.inl hi1) (by rw [List.getElem?_eq_getElem hi1, ei1]) (by rw [List.getElem?_eq_getElem hi2, ei2]) (s56 _ _ e1) e2 (c1.same s36) (c2.same s36)).weak e
    · rintro σ' G3 ⟨o6, o7, o8, o9, o10, o11, o12, o13, kvs, rfl, b3, g3, hF, hC⟩
      rw [kN_len] at hF hC
      rw [List.take_length] at hC
      have hL : 2 ^ t.ks.length ≤ 16384 := Nat.le_trans (Nat.pow_le_pow_right (by decide) hk14) (by decide)
      refine ⟨b3 _ _ ndF hf, _, _, _, _, _, _, _, _, kvs, rfl, hun b3, by rw [upd_ne ndF.symm]; exact g3, ?_⟩
      have hd3 := b3 _ _ ndF hf
      refine ⟨⟨hF.1, fun kv hk => ?_⟩, fun b p z h D w => ?_⟩
      · obtain ⟨b, z, pa, hh, D, l, e, ⟨dy, pl, ys, e1, e2, e3⟩, r⟩ := hF.2 kv hk
        exact ⟨b, z, pa, hh, D, l, e, ⟨dy, pl, ys, by rw [upd_ne (fun z => by rw [z, hd3] at e1; cases e1)]; exact e1, by rw [upd_ne (fun z => by rw [z, hd3] at e2; cases e2)]; exact e2, e3⟩, r.1, by have := r.2; omega⟩
      · obtain ⟨pa, h', D', l, c1, ⟨dy, pl, ys, e1, e2, e3⟩, c3⟩ := hC b p z h D (wk_keys okp w)
        exact ⟨pa, h', D', l, c1, ⟨dy, pl, ys, by rw [upd_ne (fun z => by rw [z, hd3] at e1; cases e1)]; exact e1, by rw [upd_ne (fun z => by rw [z, hd3] at e2; cases e2)]; exact e2, e3⟩, c3⟩
  rintro σ' G2 ⟨o6, o7, o8, o9, o10, o11, o12, o13, kvs, rfl, s2, g2, hF2, hC2⟩
  exact ⟨_, rfl, k F0 G2 kvs s2 g2 hF2 hC2⟩
end
end PN
namespace PN
open PySem PySem.Spec PyProof.Rows L2 LayT
/-- a limit's object -/
def LmAt (CP CL : Addr) (H : Hp) (x : V) (l : LM Str) : Prop := ∃ a dx pa, x = .ref a ∧ H a = some (.ins CL dx (lf l.b l.z pa l.k l.most)) ∧ PaAt CP H pa l.h l.D l.p
theorem PaAt.butL {CP d : Addr} {H H' : Hp} {p : Addr} {h D : Int} {l : List Nat} (q : PaAt CP H p h D l) (s : But d H H') {ys : List V} (hd : H d = some (.lst ys)) : PaAt CP H' p h D l := by
  obtain ⟨dx, pl, ys, h1, h2, h3⟩ := q
  exact ⟨dx, pl, ys, s _ _ (fun z => by rw [z, hd] at h1; cases h1) h1, s _ _ (fun z => by rw [z, hd] at h2; cases h2) h2, h3⟩
theorem LmAt.but {CP CL : Addr} {H H' : Hp} {x : V} {l : LM Str} {L : Addr} {ys : List V} (h : LmAt CP CL H x l) (s : But L H H') (hL : H L = some (.lst ys)) : LmAt CP CL H' x l := by
  obtain ⟨a, dx, pa, e, h1, h2⟩ := h
  exact ⟨a, dx, pa, e, s _ _ (fun w => by rw [w, hL] at h1; cases h1) h1, h2.butL s hL⟩
theorem LmAt.same {CP CL : Addr} {H H' : Hp} {x : V} {l : LM Str} (h : LmAt CP CL H x l) (s : Same H H') : LmAt CP CL H' x l := by
  obtain ⟨a, dx, pa, e, h1, h2⟩ := h
  exact ⟨a, dx, pa, e, s _ _ h1, h2.same s⟩
/-- what a dict of paths holds -/
def KvAt (CP : Addr) (H : Hp) (kv : List Key × V) (e : LM Str) : Prop := ∃ pa, kv = (kT e.b e.z, V.ref pa) ∧ PaAt CP H pa e.h e.D e.p
structure PsAt (CP : Addr) (H : Hp) (kvs : List (List Key × V)) (es : List (LM Str)) : Prop where
  len : kvs.length = es.length
  nd : (kvs.map (·.1)).Nodup
  at_ : ∀ (i : Nat) kv e, kvs[i]? = some kv → es[i]? = some e → KvAt CP H kv e
theorem PsAt.same {CP : Addr} {H H' : Hp} {kvs : List (List Key × V)} {es : List (LM Str)} (h : PsAt CP H kvs es) (s : Same H H') : PsAt CP H' kvs es := ⟨h.len, h.nd, fun i kv e a b => by
  obtain ⟨pa, e1, e2⟩ := h.at_ i kv e a b
  exact ⟨pa, e1, e2.same s⟩⟩
theorem ps_of0 {CP : Addr} {H : Hp} {R : RR} : ∀ (kvs : List (List Key × V)), (∀ kv ∈ kvs, ∃ b t pa h D l, kv = (kT b t, V.ref pa) ∧ PaAt CP H pa h D l ∧ R b t h D l) →
    ∃ es : List (LM Str), kvs.length = es.length ∧ (∀ (i : Nat) kv e, kvs[i]? = some kv → es[i]? = some e → KvAt CP H kv e) ∧ ∀ e ∈ es, e.k = true ∧ R e.b e.z e.h e.D e.p := by
  intro kvs
  induction kvs with
  | nil => intro _; exact ⟨[], rfl, fun i kv e h => by simp at h, fun e h => by cases h⟩
  | cons kv kvs ih =>
    intro h
    obtain ⟨es, e1, e2, e3⟩ := ih fun x hx => h x (List.mem_cons_of_mem _ hx)
    obtain ⟨b, z, pa, hh, D, l, rfl, hp, hr⟩ := h _ List.mem_cons_self
    refine ⟨⟨b, z, true, hh, D, l⟩ :: es, by simp [e1], fun i kv e h1 h2 => ?_, fun e he => ?_⟩
    · cases i with
      | zero => simp at h1 h2; subst h1; subst h2; exact ⟨pa, rfl, hp⟩
      | succ i => exact e2 i kv e (by simpa using h1) (by simpa using h2)
    · rcases List.mem_cons.mp he with rfl | he
      · exact ⟨rfl, hr⟩
      · exact e3 e he
def EntL (es : List (LM Str)) (u z : Str) (h D : Int) : Prop := ∃ e ∈ es, e.b = u ∧ e.z = z ∧ e.h = h ∧ e.D = D
/-- what is told of the paths -/
structure EsOk (t : PL) (es : List (LM Str)) : Prop where
  row : ∀ e ∈ es, e.k = true ∧ Wk t.ws t.d md e.b e.p e.z e.h e.D ∧ e.p.length ≤ 16384
  ps : Paths t.ws t.d out (EntL es)
  len : es.length ≤ 196
theorem fd_es {CP : Addr} {H : Hp} {t : PL} {kvs : List (List Key × V)} (okp : OkPl t) (h14 : t.ks.length ≤ 14) (hF : FdAt CP H kvs (ROk t 16384)) (hC : Full CP t md H kvs) : ∃ es, PsAt CP H kvs es ∧ EsOk t es := by
  obtain ⟨es, e1, e2, e3⟩ := ps_of0 kvs hF.2
  have hl : kvs.length ≤ 196 := by
    have h1 := hF.len (ks := t.ks) (fun b z hh D l r => by
      obtain ⟨⟨q, hq, rfl⟩, q2, hq2, rfl⟩ := r.1.ends
      exact ⟨(okp.ends q hq).1, (okp.ends q2 hq2).2⟩)
    have h2 : t.ks.length * t.ks.length ≤ 14 * 14 := Nat.mul_le_mul h14 h14
    omega
  refine ⟨es, ⟨e1, hF.1, e2⟩, fun e he => ⟨(e3 e he).1, (e3 e he).2.1, (e3 e he).2.2⟩, ⟨fun u z h D he => ?_, fun u p z h D w => ?_⟩, by omega⟩
  · obtain ⟨e, he, rfl, rfl, rfl, rfl⟩ := he
    exact ⟨e.p, (e3 e he).2.1⟩
  · obtain ⟨pa, h', D', l, c1, c2, c3⟩ := hC u p z h D w
    obtain ⟨i, hi, ei⟩ := List.mem_iff_getElem.mp (valV_mem c1)
    have hi2 : i < es.length := by omega
    obtain ⟨pa', e4, e5⟩ := e2 i _ _ (List.getElem?_eq_getElem hi) (List.getElem?_eq_getElem hi2)
    rw [ei, Prod.mk.injEq] at e4
    obtain ⟨k1, k2⟩ := kT_inj e4.1
    cases e4.2
    obtain ⟨d1, d2⟩ := c2.det e5
    exact ⟨h', D', ⟨es[i], List.getElem_mem hi2, k1.symm, k2.symm, d1.symm, d2.symm⟩, c3⟩
/-- limits of wires -/
def wl (i : Nat) : List W3 → List (LM Str)
  | [] => []
  | q :: r => ⟨q.1, q.2.1, false, q.2.2, 0, [i]⟩ :: wl (i + 1) r
theorem wl_snoc (i : Nat) (xs : List W3) (q : W3) : wl i (xs ++ [q]) = wl i xs ++ [⟨q.1, q.2.1, false, q.2.2, 0, [i + xs.length]⟩] := by
  induction xs generalizing i with
  | nil => rfl
  | cons a xs ih => rw [List.cons_append]; unfold wl; rw [ih, List.length_cons, List.cons_append, show i + 1 + xs.length = i + (xs.length + 1) by omega]
theorem wl_len (i : Nat) (xs : List W3) : (wl i xs).length = xs.length := by
  induction xs generalizing i with
  | nil => rfl
  | cons a xs ih => unfold wl; rw [List.length_cons, List.length_cons, ih]
theorem wl_mem {i : Nat} {xs : List W3} {l : LM Str} (h : l ∈ wl i xs) : ∃ (j : Nat) (q : W3), xs[j]? = some q ∧ l = ⟨q.1, q.2.1, false, q.2.2, 0, [i + j]⟩ := by
  induction xs generalizing i with
  | nil => cases h
  | cons a xs ih =>
    unfold wl at h
    rcases List.mem_cons.mp h with e | h
    · exact ⟨0, a, rfl, e⟩
    · obtain ⟨j, q, h1, h2⟩ := ih h
      exact ⟨j + 1, q, by simpa using h1, by rw [h2, show i + 1 + j = i + (j + 1) by omega]⟩
theorem mem_wl {i : Nat} {xs : List W3} {q : W3} (h : q ∈ xs) : ∃ l ∈ wl i xs, l.k = false ∧ l.b = q.1 ∧ l.z = q.2.1 ∧ l.h = q.2.2 := by
  induction xs generalizing i with
  | nil => cases h
  | cons a xs ih =>
    unfold wl
    rcases List.mem_cons.mp h with rfl | h
    · exact ⟨_, List.mem_cons_self, rfl, rfl, rfl, rfl⟩
    · obtain ⟨l, h1, h2⟩ := ih (i := i + 1) h
      exact ⟨l, List.mem_cons_of_mem _ h1, h2⟩
def limL (ws : List W3) (es : List (LM Str)) (m : Int) : List (LM Str) := wl 0 ws ++ es.filter fun e => decide (m < e.D)
theorem lims_ok {t : PL} {es : List (LM Str)} (o : EsOk t es) (m : Int) : LmsOk t.ws t.d out (EntL es) m (limL t.ws es m) := by
  refine ⟨fun l hl hk => ?_, fun l hl hk => ?_, fun q hq => ?_, fun u z h D he hlt => ?_⟩
  · rcases List.mem_append.mp hl with hl | hl
    · obtain ⟨j, q, h1, rfl⟩ := wl_mem hl
      exact ⟨j, q, by simp, h1, rfl, rfl, rfl⟩
    · have := (o.row l (List.mem_filter.mp hl).1).1
      rw [this] at hk; cases hk
  · rcases List.mem_append.mp hl with hl | hl
    · obtain ⟨j, q, h1, rfl⟩ := wl_mem hl
      cases hk
    · obtain ⟨h1, h2⟩ := List.mem_filter.mp hl
      exact ⟨(o.row l h1).2.1, ⟨l, h1, rfl, rfl, rfl, rfl⟩, of_decide_eq_true h2⟩
  · obtain ⟨l, h1, h2⟩ := mem_wl (i := 0) hq
    exact ⟨l, List.mem_append_left _ h1, h2⟩
  · obtain ⟨e, h1, h2, h3, h4, h5⟩ := he
    exact ⟨e, List.mem_append_right _ (List.mem_filter.mpr ⟨h1, by rw [h5]; exact decide_eq_true hlt⟩), (o.row e h1).1, h2, h3, h4⟩
theorem lim_keys {t : PL} {es : List (LM Str)} (okp : OkPl t) (o : EsOk t es) (m : Int) : ∀ l ∈ limL t.ws es m, l.b ∈ t.ks ∧ l.z ∈ t.ks := fun l hl => by
  rcases List.mem_append.mp hl with hl | hl
  · obtain ⟨j, q, h1, rfl⟩ := wl_mem hl
    exact okp.ends q (List.mem_of_getElem? h1)
  · obtain ⟨⟨q, hq, e1⟩, q2, hq2, e2⟩ := ((o.row l (List.mem_filter.mp hl).1).2.1).ends
    rw [← e1, ← e2]
    exact ⟨(okp.ends q hq).1, (okp.ends q2 hq2).2⟩
theorem lim_len {t : PL} {es : List (LM Str)} (okp : OkPl t) (o : EsOk t es) (m : Int) : (limL t.ws es m).length ≤ 256 := by
  unfold limL
  rw [List.length_append, wl_len]
  have := List.length_filter_le (fun e => decide (m < e.D)) es
  have := o.len
  have := okp.wl
  omega
section
variable {P : Program} {w : World} {K : PySem.W.Frag} {mg : Str → Option Value} {base : Heap} {C CP CL : Addr}
def spLims (C CP CL : Addr) : Sp := fun vs H Q _ => ∃ (p d : Addr) (t : PL) (m : Int) (kvs : List (List Key × V)) (es : List (LM Str)), vs = [.ref p, .ref d, .int m] ∧ PlAt C H p t ∧ OkPl t ∧
  H d = some (.dT kvs) ∧ PsAt CP H kvs es ∧ es.length ≤ 196 ∧ (∀ e ∈ es, e.k = true) ∧ ∀ r H' xs, Same H H' → H' r = some (.lst xs) → Al (LmAt CP CL H') xs (limL t.ws es m) → Q (.ref r) H'
abbrev nLims : List Str := ["plan", "paths", "beat", "limits", "place", "begin", "to", "many", "ends"]
theorem scLims : FnScope nLims ["plan", "paths", "beat"] (defScope sLimits) := ⟨rfl, rfl, rfl, by decide +kernel, rfl, by decide +kernel, by decide +kernel⟩
theorem ok_lims {fI fL f : Addr} {fdI fdL fd : FuncData} (F : Fun K "limits_of" "limits_of" sLimits f fd) (T : Txt K mg) (TP : TxtP K mg C) (TA : TxtPa K mg CP) (MP : MkC P w K mg base CP "Path" ["self", "held", "delay", "places"] 1 (spPI CP) fI fdI)
    (ML : MkC P w K mg base CL "Limit" nLI 1 (spLI CP CL) fL fdL) : FnOk P w K mg base CX0 3 f fd ["plan", "paths", "beat"] (spLims C CP CL) := by
  refine F.ok scLims (fun vs H Q E h => ?_) (fun cdv A outer s H vs Q E hr h => ?_)
  · obtain ⟨p, d, t, m, kvs, es, rfl, _⟩ := h
    rfl
  obtain ⟨p, d, t, m, kvs, es, rfl, hp, okp, hd, hF, hel, hek, k⟩ := h
  have nd := scLims.nd
  have hu := hu_of hr
  refine ⟨_, pss_cons (ps_set (i := 3) nd rfl (.inl rfl) (plst pa_nil))
    (Evl.pss_cut (ps_for PassesOwn.never rfl (pi_enumT (by rfl) T.enumerate (pa_cons (pe_fld (pv 0) rfl) pa_nil)) (pgN4 K 4 5 6 7 nd)
      (pss_one (ps_expr (pe_bm PySem.F.plainAttrs_list PySem.F.slot_list_append PySem.F.type_list_append mt_append (pv 3) (pa_cons
        (pe_make ML.M ML.ok hr (by rfl) ML.g ML.b .nil pass0 (pa_cons (pv 5) (pa_cons (pv 6) (pa_cons
          (pe_make MP.M MP.ok hr (by rfl) MP.g MP.b .nil pass0 (pa_cons (pv 7) (pa_cons pe_int (pa_cons (ptup (pa_cons (pv 4) pa_nil)) pa_nil)))) (pa_cons pe_bl pa_nil))))) pa_nil)))))
    (Evl.pss_cut (ps_lock (ps_for PassesOwn.never rfl (pi_keys (pv 1)) (pg_name (i := 8) nd rfl (.inl rfl))
      (pss_one (ps_if (pt_cmpR op_gt (pe_fld (pe_dget hu (pv 1) (pv 8) (fun _ _ => rfl)) rfl) (pv 2) (nomark _))
        (pss_one (ps_expr (pe_bm PySem.F.plainAttrs_list PySem.F.slot_list_append PySem.F.type_list_append mt_append (pv 3) (pa_cons
          (pe_make ML.M ML.ok hr (by rfl) ML.g ML.b .nil pass0 (pa_cons (pe_ix (ixT K) (pv 8) pe_int (fun _ _ => rfl)) (pa_cons (pe_ix (ixT K) (pv 8) pe_int (fun _ _ => rfl)) (pa_cons
            (pe_dget hu (pv 1) (pv 8) (fun _ _ => rfl)) (pa_cons pe_bl pa_nil))))) pa_nil)))) pss_nil))))
    (pss_one (ps_ret (pv 3))))), ?_⟩
  obtain ⟨dx, da, wa, xs, h1, h2, h3, h4⟩ := id hp
  have sM : ∀ {Ck : Addr} {G G' : Hp} {x dy : Addr}, G x = none → G dy = none → But x (upd (upd G dy (.own x)) x (.ins Ck dy [])) G' → Same G G' := fun {Ck G G' x dy} nx ny b b' o e =>
    b b' o (ne_of_none e nx) (by rw [upd_ne (ne_of_none e nx), upd_ne (ne_of_none e ny)]; exact e)
  refine rd_l0 fun L G0 nL s0 g0 => ?_
  have hwl := okp.wl
  have hkl : kvs.length ≤ 196 := by rw [hF.len]; exact hel
  refine ⟨fun σ' G => ∃ (o4 o5 o6 o7 : Option V) (ys : List V), σ' = [some (.ref p), some (.ref d), some (.int m), some (.ref L), o4, o5, o6, o7, none] ∧ Same H G ∧ G L = some (.lst ys) ∧ Al (LmAt CP CL G) ys (wl 0 t.ws), ?_, ?_⟩
  · refine ⟨_, rfl, p, C, dx, _, _, rfl, s0 _ _ h1, TP.cl, TP.nW, fld_w, wa, xs, rfl, SqT.of (s0 _ _ h3), for_it (walk_enumT (K := K) (a := wa) (xs := xs)) (fun j σ' G => ∃ (o4 o5 o6 o7 : Option V) (ys : List V), σ' = [some (.ref p), some (.ref d), some (.int m), some (.ref L), o4, o5, o6, o7, none] ∧ Same H G ∧ G L = some (.lst ys) ∧ Al (LmAt CP CL G) ys (wl 0 (t.ws.take j)))
      ⟨_, _, _, _, [], rfl, s0, g0, Al.nil⟩ (fun j σ' G3 _ hh => by obtain ⟨_, _, _, _, _, _, h, _⟩ := hh; exact SqT.of (h _ _ h3)) ?_ ?_⟩
    · rintro j y σ' G3 G4 hj ⟨o4, o5, o6, o7, ys, rfl, s3, g3, hys⟩ ⟨Tt, x1, x2, rfl, nT, rfl, e1, e2⟩
      cases e1
      obtain ⟨q, hq, aq, rfl, haq⟩ := h4.at e2
      have hqm := List.mem_of_getElem? hq
      have hjl : j < xs.length := hj
      have hxl := h4.1
      have hyl : ys.length ≤ 60 := by
        have := hys.1
        rw [wl_len, List.length_take] at this
        omega
      have hys4 := hys.mono (S := LmAt CP CL (upd G3 Tt (.tup [V.int (j : Nat), V.ref aq]))) fun _ _ z => z.same (same_upd nT)
      obtain ⟨k1, k2⟩ := okp.ends q hqm
      have sT := same_upd (o := HO.tup [V.int (j : Nat), V.ref aq]) nT
      have s4 := s3.trans sT
      have g4 := sT _ _ g3
      have hTt : upd G3 Tt (.tup [V.int (j : Nat), V.ref aq]) Tt = some (.tup [V.int (j : Nat), V.ref aq]) := upd_same
      generalize upd G3 Tt (.tup [V.int (j : Nat), V.ref aq]) = G4 at sT s4 g4 hTt hys4 ⊢
      refine ⟨Tt, _, rfl, SqT.of hTt, rfl, _, _, rfl, _, _, rfl, aq, _, rfl, SqT.of (s4 _ _ haq), rfl, _, _, rfl, _, _, rfl, _, _, rfl, rfl, rfl, ?_⟩
      refine ⟨_, rfl, .inl ⟨rfl, _, SqL.of g4⟩, ?_⟩
      refine ⟨_, rfl, _, rfl, _, rfl, _, rfl, rd_t1 fun pl G6 s6 hpl => ?_⟩
      intro x dy nx ny nxy
      refine ⟨x, dy, _, _, pl, rfl, upd_same, fun G7 b7 h7 => ⟨rfl, ?_⟩⟩
      have s67 := sM nx ny b7
      have hpa : PaAt CP G7 x q.2.2 0 [j] := ⟨dy, pl, _, h7, s67 _ _ hpl, rfl, by simp⟩
      intro l dl nl ndl nll
      have nxl : x ≠ l := fun z => by rw [← z, h7] at nl; cases nl
      have sl : Same G7 (upd (upd G7 dl (.own l)) l (.ins CL dl [])) := fun b o e => by rw [upd_ne (ne_of_none e nl), upd_ne (ne_of_none e ndl)]; exact e
      refine ⟨l, dl, x, q.1, q.2.1, false, q.2.2, 0, [j], rfl, upd_same, hpa.same sl, nxl, fun G8 b8 h8 => ⟨rfl, ?_⟩⟩
      have s78 := sM nl ndl b8
      have s48 := (s6.trans s67).trans s78
      have g8 := s48 _ _ g4
      refine ⟨L, _, _, rfl, rfl, g8, szl (by omega), ?_⟩
      have nLl : l ≠ L := fun z => by rw [z, g8] at h8; cases h8
      have hpa8 := hpa.same s78
      refine ⟨_, _, _, _, _, rfl, (s4.trans s48).mut nL, upd_same, ?_⟩
      rw [take_succ_at hq, wl_snoc, Nat.zero_add, List.length_take, Nat.min_eq_left (by omega)]
      refine Al.snoc ((hys4.mono fun _ _ z => z.same s48).mono fun _ _ z => z.but (but_upd (c := L)) g8) ?_
      refine LmAt.but (H := G8) ⟨l, dl, x, rfl, ?_, hpa8⟩ (but_upd (c := L)) g8
      rw [h8]; rfl
    · rintro σ' G3 ⟨o4, o5, o6, o7, ys, rfl, s3, g3, hys⟩
      rw [h4.1, List.take_length] at hys
      exact ⟨_, _, _, _, ys, rfl, s3, g3, hys⟩
  rintro σ' G1 ⟨o4, o5, o6, o7, ys1, rfl, s1, g1, hys1⟩
  have hyl1 : ys1.length ≤ 60 := by rw [hys1.1, wl_len]; exact hwl
  have hd1 := s1 _ _ hd
  have ndL : d ≠ L := fun z => by rw [z, g1] at hd1; cases hd1
  refine ⟨fun σ' G => ∃ (o8 : Option V) (ys : List V), σ' = [some (.ref p), some (.ref d), some (.int m), some (.ref L), o4, o5, o6, o7, o8] ∧ Same H G ∧ G L = some (.lst ys) ∧ Al (LmAt CP CL G) ys (limL t.ws es m), ?_, ?_⟩
  · refine ⟨d, _, hd1, True.intro, fun od => ?_⟩
    have hf : upd G1 d (.frz od (.dT kvs)) d = some (.frz od (.dT kvs)) := upd_same
    have hun : ∀ {H2 : Hp}, Same (upd G1 d (.frz od (.dT kvs))) H2 → Same G1 (upd H2 d (.dT kvs)) := fun s2 => unlock hd1 s2
    have pf0 : ∀ {pa : Addr} {h D : Int} {l : List Nat}, PaAt CP G1 pa h D l → PaAt CP (upd G1 d (.frz od (.dT kvs))) pa h D l := fun {pa h D l} ⟨dy, pl, ys, e1, e2, e3⟩ =>
      ⟨dy, pl, ys, by rw [upd_ne (fun z => by rw [z, hd1] at e1; cases e1)]; exact e1, by rw [upd_ne (fun z => by rw [z, hd1] at e2; cases e2)]; exact e2, e3⟩
    have hFf : PsAt CP (upd G1 d (.frz od (.dT kvs))) kvs es := by
      have h0 := hF.same s1
      refine ⟨h0.len, h0.nd, fun i kv e h1 h2 => ?_⟩
      obtain ⟨pa, e1, e2⟩ := h0.at_ i kv e h1 h2
      exact ⟨pa, e1, pf0 e2⟩
    have gL : upd G1 d (.frz od (.dT kvs)) L = some (.lst ys1) := by rw [upd_ne ndL.symm]; exact g1
    have hy0 : Al (LmAt CP CL (upd G1 d (.frz od (.dT kvs)))) ys1 (wl 0 t.ws) := hys1.mono fun x l hx => by
      obtain ⟨a, dx, pa, e, h1, h2⟩ := hx
      exact ⟨a, dx, pa, e, by rw [upd_ne (fun z => by rw [z, hd1] at h1; cases h1)]; exact h1, pf0 h2⟩
    have hfo : ∀ (x : Addr) (o : HO), x ≠ d → G1 x = some o → upd G1 d (.frz od (.dT kvs)) x = some o := fun x o n e => by rw [upd_ne n]; exact e
    generalize upd G1 d (.frz od (.dT kvs)) = Hf at hf hun hFf gL hy0 hfo ⊢
    refine ⟨_, rfl, d, od, rfl, .inr ⟨kvs, hf, for_it (walk_keysT (d := d) (o := od) (kvs := kvs)) (fun j σ' G => ∃ (o8 : Option V) (ys : List V), σ' = [some (.ref p), some (.ref d), some (.int m), some (.ref L), o4, o5, o6, o7, o8] ∧ But L Hf G ∧ G L = some (.lst ys) ∧ ys.length ≤ 60 + j ∧ Al (LmAt CP CL G) ys (wl 0 t.ws ++ (es.take j).filter fun e => decide (m < e.D)))
      ⟨_, ys1, rfl, fun x o n e => e, gL, hyl1, by rw [List.take_zero, List.filter_nil, List.append_nil]; exact hy0⟩ (fun j σ' G _ hh => by obtain ⟨_, _, _, h, _⟩ := hh; exact h _ _ ndL hf) ?_ ?_⟩⟩
    · rintro j y σ' G3 G4 hj ⟨o8, ys, rfl, b3, g3, hyl, hys⟩ ⟨eG, ky, vy, q, hky, rfl, hq⟩
      obtain rfl : G3 = G4 := eG.symm
      have hjl : j < es.length := by rw [← hF.len]; exact hj
      have hje := List.getElem?_eq_getElem hjl
      obtain ⟨pa, e, hpa⟩ := hFf.at_ j _ _ hky hje
      have hxe : ∃ e0 : LM Str, es[j]? = some e0 ∧ e0 = es[j] := ⟨_, hje, rfl⟩
      obtain ⟨⟨b, z, kk, hh, D, l⟩, hxe, hx2⟩ := hxe
      rw [← hx2] at e hpa
      dsimp only at e hpa
      have hkk : kk = true := by
        have := hek _ (List.mem_of_getElem? hxe)
        exact this
      subst hkk
      rw [Prod.mk.injEq] at e
      obtain ⟨rfl, rfl⟩ := e
      have hq' : G3 q = some (.tup [.str b, .str z]) := hq
      obtain ⟨dy, pl, yp, e1, e2, e3⟩ := id hpa
      have hd3 := b3 _ _ ndL hf
      have npaL : pa ≠ L := fun z => by rw [z, gL] at e1; cases e1
      have nplL : pl ≠ L := fun z => by rw [z, gL] at e2; cases e2
      have e13 := b3 _ _ npaL e1
      have hpa3 : PaAt CP G3 pa hh D l := ⟨dy, pl, yp, e13, b3 _ _ nplL e2, e3⟩
      have dg : DGet G3 d (.ref q) (some (.ref pa)) := by
        have hkn : valV kvs (kT b z) = some (.ref pa) := by
          obtain ⟨v, hv⟩ := Option.isSome_iff_exists.mp (mem_valV (List.mem_of_getElem? hky))
          rw [hv]
          have hm := valV_mem hv
          congr 1
          have : ∀ (l : List (List Key × V)), (l.map (·.1)).Nodup → ∀ k v v', (k, v) ∈ l → (k, v') ∈ l → v = v' := by
            intro l
            induction l with
            | nil => intro _ k v v' h; cases h
            | cons a l ih =>
              intro hn k v v' h1 h2
              rw [List.map_cons, List.nodup_cons] at hn
              rcases List.mem_cons.mp h1 with z1 | z1 <;> rcases List.mem_cons.mp h2 with z2 | z2
              · rw [← z1] at z2; exact (Prod.mk.inj z2).2.symm
              · exact absurd (List.mem_map.mpr ⟨_, z2, by rw [← z1]⟩) hn.1
              · exact absurd (List.mem_map.mpr ⟨_, z1, by rw [← z2]⟩) hn.1
              · exact ih hn.2 k v v' z1 z2
          exact this kvs hFf.nd _ _ _ hm (List.mem_of_getElem? hky)
        rw [← hkn]
        exact .inr ⟨kvs, kT b z, q, .inr ⟨od, hd3⟩, rfl, hq, rfl⟩
      refine ⟨_, rfl, _, rfl, d, _, rfl, dg, pa, CP, dy, _, _, rfl, e13, TA.cl, TA.nD, pf_D, _, rfl, _, _, rfl, rfl, _, rfl, ?_⟩
      by_cases hgt : m < D
      case neg =>
        rw [decide_eq_false hgt]
        refine iteF ⟨_, ys, rfl, b3, g3, by omega, ?_⟩
        rw [take_succ_at hxe, List.filter_append, List.filter_cons_of_neg (by rw [decide_eq_true_eq]; exact hgt), List.filter_nil, List.append_nil]
        exact hys
      rw [decide_eq_true hgt]
      refine iteT ?_
      refine ⟨_, rfl, .inl ⟨rfl, _, SqL.of g3⟩, ?_⟩
      refine ⟨_, rfl, q, _, 0, _, rfl, rfl, SqT.of hq', rfl, _, rfl, q, _, 1, _, rfl, rfl, SqT.of hq', rfl, _, rfl, _, rfl, d, _, rfl, dg, ?_⟩
      intro x dl nx ndl nxl
      have npx : pa ≠ x := fun z => by rw [← z, e13] at nx; cases nx
      have sl : Same G3 (upd (upd G3 dl (.own x)) x (.ins CL dl [])) := fun b o e => by rw [upd_ne (ne_of_none e nx), upd_ne (ne_of_none e ndl)]; exact e
      refine ⟨x, dl, pa, b, z, true, hh, D, l, rfl, upd_same, hpa3.same sl, npx, fun G8 b8 h8 => ⟨rfl, ?_⟩⟩
      have s38 := sM nx ndl b8
      have g8 := s38 _ _ g3
      refine ⟨L, _, _, rfl, rfl, g8, szl (by omega), ?_⟩
      have nLl : x ≠ L := fun z => by rw [z, g8] at h8; cases h8
      refine ⟨_, _, rfl, (b3.trans (s38.but L)).trans but_upd, upd_same, by rw [List.length_append, List.length_singleton]; omega, ?_⟩
      rw [take_succ_at hxe, List.filter_append, List.filter_cons_of_pos (by rw [decide_eq_true_eq]; exact hgt), List.filter_nil, ← List.append_assoc]
      refine Al.snoc ((hys.mono fun _ _ z => z.same s38).mono fun _ _ z => z.but (but_upd (c := L)) g8) ?_
      refine LmAt.but (H := G8) ⟨x, dl, pa, rfl, ?_, hpa3.same s38⟩ (but_upd (c := L)) g8
      rw [h8]; rfl
    · rintro σ' G3 ⟨o8, ys, rfl, b3, g3, hyl, hys⟩
      have hd3 := b3 _ _ ndL hf
      refine ⟨hd3, _, ys, rfl, ?_, by rw [upd_ne ndL.symm]; exact g3, ?_⟩
      · refine But.same (c := L) (fun x o n e => ?_) nL
        by_cases c : x = d
        · rw [c, upd_same]; rw [c, hd] at e; exact e
        · rw [upd_ne c]
          exact b3 x o n (hfo x o c (s1 _ _ e))
      · rw [hF.len, List.take_length] at hys
        refine hys.mono fun x l hx => ?_
        obtain ⟨a, dx, pa, e, h1, ⟨dy, pl, yp, e1, e2, e3⟩⟩ := hx
        exact ⟨a, dx, pa, e, by rw [upd_ne (fun z => by rw [z, hd3] at h1; cases h1)]; exact h1, dy, pl, yp, by rw [upd_ne (fun z => by rw [z, hd3] at e1; cases e1)]; exact e1, by rw [upd_ne (fun z => by rw [z, hd3] at e2; cases e2)]; exact e2, e3⟩
  rintro σ' G2 ⟨o8, ys, rfl, s2, g2, hys2⟩
  exact ⟨_, rfl, k L G2 ys s2 g2 hys2⟩
end
end PN
namespace PN
open PySem PySem.Spec PyProof.Rows L2 LayT
theorem pclE {X : Cx} {W : WX} (tk : Takes X W) {x : Str} {k : Nat} {ps : List Str} {sp : Sp} {f : Addr} {fd : FuncData} {e : Expr} {es : List Expr} {t : TA} {p pos : Pos} (D : DfX X.prog X.w X.K X.mg X.base x k ps sp f fd) (hr : Room k X.A) (ha : PA X (e :: es) t) (hg : Gl X x := by rfl)
    (hdb : (x == ("__debug__" : Str)) = false := by decide) (he : starEach (e :: es) X.env = (false, eval e X.env) :: starEach es X.env := by rfl) (hpl : (backTo pos (starEach es X.env)).any (·.1) = false := by rfl) :
    PE X (.Call (.Name x p) (e :: es) [] pos) (tCallS sp (WE W) t) := pe_callS D.ok hr hg D.mgf D.kp D.b (fun σ => passAt tk σ) ha hdb he hpl
section
variable {P : Program} {w : World} {K : PySem.W.Frag} {mg : Str → Option Value} {base : Heap} {C CP CL CB CN : Addr}
/-! ### moves_within -/
def LaAt (CP CL : Addr) (H : Hp) (lk : List (Key × V)) (la : Str → Option (LM Str)) : Prop := ∀ x, (valV lk (Sum.inr x : Key) = none ∧ la x = none) ∨ ∃ (v : V) (l : LM Str), valV lk (Sum.inr x : Key) = some v ∧ la x = some l ∧ LmAt CP CL H v l
theorem LaAt.put {CP CL : Addr} {H : Hp} {lk : List (Key × V)} {la : Str → Option (LM Str)} (h : LaAt CP CL H lk la) {x : Str} {v : V} {l : LM Str} (r : LmAt CP CL H v l) : LaAt CP CL H (putK lk (Sum.inr x : Key) v) (pt la x (some l)) := fun y => by
  by_cases e : y = x
  · subst e
    exact .inr ⟨v, l, by rw [valV_put, if_pos rfl], pt_same, r⟩
  · rw [valV_put, if_neg (fun z => e (Sum.inr.inj z)), pt_ne e]
    exact h y
theorem LaAt.get {CP CL : Addr} {H : Hp} {lk : List (Key × V)} {la : Str → Option (LM Str)} (h : LaAt CP CL H lk la) {x : Str} {l : LM Str} (e : la x = some l) : ∃ v, valV lk (Sum.inr x : Key) = some v ∧ LmAt CP CL H v l := by
  rcases h x with ⟨_, e2⟩ | ⟨v, l2, e1, e2, r⟩
  · rw [e] at e2; cases e2
  · rw [e] at e2; cases e2; exact ⟨v, e1, r⟩
theorem putK_len {κ : Type} [DecidableEq κ] {kvs : List (κ × V)} {k : κ} {v : V} : (putK kvs k v).length ≤ kvs.length + 1 := by
  unfold putK
  split
  · rw [List.length_map]; exact Nat.le_succ _
  · rw [List.length_append]; exact Nat.le_refl _
def spWithin (CP CL : Addr) : Sp := fun vs H Q _ => ∃ (g l : Addr) (ks : List Str) (d : Str → Int) (xs : List V) (ls : List (LM Str)), vs = [.ref g, .ref l] ∧ H g = some (.dK (kN ks d)) ∧ ks.Nodup ∧ ks.length ≤ 30 ∧ H l = some (.lst xs) ∧ Al (LmAt CP CL H) xs ls ∧ ls.length ≤ 1000 ∧ (∀ l ∈ ls, l.b ∈ ks ∧ l.z ∈ ks) ∧
  (∀ r mv rg H' f, Same H H' → H' r = some (.tup [.ref mv, .ref rg]) → H' mv = some (.dK (kN ks f)) → H' rg = some (.lst []) → Keeps ls f → Q (.ref r) H') ∧
  ∀ r mv rg H' f ys rs g0, Same H H' → H' r = some (.tup [.ref mv, .ref rg]) → H' mv = some (.dK (kN ks f)) → H' rg = some (.lst ys) → Al (LmAt CP CL H') ys rs → RingAt ls g0 rs → rs.length ≤ 30 → Q (.ref r) H'
abbrev nWithin : List Str := ["gates", "limits", "moves", "last", "gate", "_", "limit", "ring"]
theorem scWithin : FnScope nWithin ["gates", "limits"] (defScope sWithin) := ⟨rfl, rfl, rfl, by decide +kernel, rfl, by decide +kernel, by decide +kernel⟩
theorem ok_within {f : Addr} {fd : FuncData} (F : Fun K "moves_within" "moves_within" sWithin f fd) (T : Txt K mg) (TL : TxtL K mg CL) : FnOk P w K mg base CX0 1 f fd ["gates", "limits"] (spWithin CP CL) := by
  refine F.ok scWithin (fun vs H Q E h => ?_) (fun cdv A outer s H vs Q E hr h => ?_)
  · obtain ⟨g, l, ks, d, xs, ls, rfl, _⟩ := h
    rfl
  obtain ⟨g, l, ks, d, xs, ls, rfl, hg, hn, hkl, hl, hx, hll, hlk, k1, k2⟩ := h
  have nd := scWithin.nd
  have hu := hu_of hr
  have hxl := hx.1
  refine ⟨_, Evl.pss_cut (ps_lock (ps_setDc (i := 2) (own := [("gate", 4)]) (g := gName 4) (by rfl) nd rfl rfl (sw_trueD rfl rfl rfl (by decide +kernel)) (pi_keys (pv 0)) (blkOk_by (N := nWithin) (sc := defScope sWithin) (by decide +kernel))
        (fun _ _ _ _ _ => pg_name (i := 4) nd rfl (.inl rfl)) (fun _ _ _ _ _ => pts_nil) (fun _ _ _ _ _ => pv 4) (fun _ _ _ _ _ => pe_int)))
    (pss_cons (ps_set (i := 3) nd rfl (.inl rfl) pe_dnewK)
    (pss_cons (ps_set (i := 4) nd rfl (.inl rfl) pe_non)
    (Evl.pss_cut (ps_for PassesOwn.never rfl (pi_range1 rfl T.range (pa_cons (pe_op op_add (pe_callB call_lenD (by rfl) T.len PySem.boot_len (pa_cons (pv 0) pa_nil)) pe_int) pa_nil)) (pg_name (i := 5) nd rfl (.inl rfl))
      (pss_cons (ps_set (i := 4) nd rfl (.inl rfl) pe_non)
      (pss_cons (ps_for PassesOwn.never rfl (pi_list (pv 1)) (pg_name (i := 6) nd rfl (.inl rfl))
        (pss_one (ps_if (pt_cmpR op_gt (pe_dget hu (pv 2) (pe_fld (pv 6) rfl) (fun _ _ => rfl)) (pe_op op_add (pe_dget hu (pv 2) (pe_fld (pv 6) rfl) (fun _ _ => rfl)) (pe_fld (pv 6) rfl)) (nomark _))
          (pss_cons (ps_dput hu (pv 2) (pe_fld (pv 6) rfl) (pe_op op_add (pe_dget hu (pv 2) (pe_fld (pv 6) rfl) (fun _ _ => rfl)) (pe_fld (pv 6) rfl)) rfl)
          (pss_cons (ps_dput hu (pv 3) (pe_fld (pv 6) rfl) (pv 6) rfl)
          (pss_one (ps_set (i := 4) nd rfl (.inl rfl) (pe_fld (pv 6) rfl))))) pss_nil)))
      (pss_one (ps_if (pt_cmpR op_isN (pv 4) pe_non (nomark _)) (pss_one (ps_ret (ptup (pa_cons (pv 2) (pa_cons (plst pa_nil) pa_nil))))) pss_nil)))))
    (Evl.pss_cut (ps_for PassesOwn.never rfl (pi_range1 rfl T.range (pa_cons (pe_callB call_lenD (by rfl) T.len PySem.boot_len (pa_cons (pv 0) pa_nil)) pa_nil)) (pg_name (i := 5) nd rfl (.inl rfl))
      (pss_one (ps_set (i := 4) nd rfl (.inl rfl) (pe_fld (pe_dget hu (pv 3) (pv 4) (fun _ _ => rfl)) rfl))))
    (pss_cons (ps_set (i := 7) nd rfl (.inl rfl) (plst (pa_cons (pe_dget hu (pv 3) (pv 4) (fun _ _ => rfl)) pa_nil)))
    (pss_cons (ps_while PassesOwn.never (pt_cmpR op_ne (pe_fld (pe_ix (ixL K) (pv 7) (pe_un un_neg pe_int) (fun _ _ => rfl)) rfl) (pv 4) (nomark _))
      (pss_one (ps_expr (pe_bm PySem.F.plainAttrs_list PySem.F.slot_list_append PySem.F.type_list_append mt_append (pv 7) (pa_cons (pe_dget hu (pv 3) (pe_fld (pe_ix (ixL K) (pv 7) (pe_un un_neg pe_int) (fun _ _ => rfl)) rfl) (fun _ _ => rfl)) pa_nil)))))
    (pss_one (ps_ret (ptup (pa_cons (pv 2) (pa_cons (pv 7) pa_nil))))))))))), ?_⟩
  refine ⟨fun σ' G => ∃ D, σ' = [some (.ref g), some (.ref l), some (.ref D), none, none, none, none, none] ∧ Same H G ∧ H D = none ∧ G D = some (.dK (kN ks fun _ => 0)), ?_, ?_⟩
  · refine ⟨g, _, hg, True.intro, fun od => ?_⟩
    have hf : upd H g (.frz od (.dK (kN ks d))) g = some (.frz od (.dK (kN ks d))) := upd_same
    have hun : ∀ {H2 : Hp}, Same (upd H g (.frz od (.dK (kN ks d)))) H2 → Same H (upd H2 g (.dK (kN ks d))) := fun s2 => unlock hg s2
    have hfn : ∀ {l : Addr}, upd H g (.frz od (.dK (kN ks d))) l = none → H l = none := fun {l} e => by
      by_cases z : l = g
      · rw [z, upd_same] at e; cases e
      · rw [upd_ne z] at e; exact e
    generalize upd H g (.frz od (.dK (kN ks d))) = Hf at hf hun hfn ⊢
    refine ⟨_, rfl, g, od, rfl, .inl ⟨_, hf, fun c nc => dc_it (walk_keys (d := g) (o := od) (kvs := kN ks d)) (fun j G2 => Same Hf G2 ∧ G2 c = some (.dK (kN (ks.take j) fun _ => 0)))
      ⟨same_upd nc, upd_same⟩ (fun j G2 _ hh => hh.1 _ _ hf) ?_ ?_⟩⟩
    · rintro j y G2 G3 hj ⟨sG, gc⟩ ⟨rfl, ky, vy, hky, rfl⟩
      obtain ⟨n, hn', rfl⟩ : ∃ n, ks[j]? = some n ∧ ky = Sum.inr n := by
        unfold kN at hky
        rw [List.getElem?_map] at hky
        obtain ⟨n, hn, e⟩ := Option.map_eq_some_iff.mp hky
        cases e
        exact ⟨n, hn, rfl⟩
      refine ⟨rfl, _, rfl, _, Sum.inr n, rfl, gc, ?_, sG.mut nc, ?_⟩
      · rw [kN_len, List.length_take]; exact szl (by omega)
      · rw [upd_same, kN_new (nodup_take_not hn hn') rfl, take_succ_at hn']
    · rintro G2 ⟨sG, gc⟩
      rw [kN_len, List.take_length] at gc
      have hcg : c ≠ g := fun z => by rw [z, hf] at nc; cases nc
      exact ⟨sG _ _ hf, c, rfl, hun sG, hfn nc, by rw [upd_ne hcg]; exact gc⟩
  rintro σ' G ⟨D, rfl, s1, nD, gD⟩
  intro La nLa
  have nLaH : H La = none := by
    cases e : H La with
    | none => rfl
    | some o => rw [s1 _ _ e] at nLa; cases nLa
  have s2 := s1.trans (same_upd (o := HO.dK []) nLa)
  have gD2 := (same_upd (o := HO.dK []) nLa) _ _ gD
  have gLa2 : upd G La (.dK []) La = some (.dK []) := upd_same
  have nDL : D ≠ La := fun z => by rw [z, nLa] at gD; cases gD
  generalize upd G La (.dK []) = G2 at s2 gD2 gLa2 ⊢
  have hklen : (kN ks d).length = ks.length := kN_len
  have hdg : ∀ {G : Hp} {f : Str → Int} {n : Str}, G D = some (.dK (kN ks f)) → n ∈ ks → DGet G D (.str n) (some (.int (f n))) := fun {G f n} h hn => by
    rw [← kN_get (wf := f) hn]
    exact .inl ⟨_, Sum.inr n, .inl h, rfl, rfl⟩
  have hlg : ∀ {G : Hp} {lk : List (Key × V)} {x : Str} {v : V}, G La = some (.dK lk) → valV lk (Sum.inr x : Key) = some v → DGet G La (.str x) (some v) := fun {G lk x v} h e => by
    rw [← e]
    exact .inl ⟨_, Sum.inr x, .inl h, rfl, rfl⟩
  -- the looks
  refine ⟨fun σ' G => ∃ (f : Str → Int) (la : Str → Option (LM Str)) (tm : Str → Nat) (lk : List (Key × V)) (T : Nat) (g0 : Str) (o5 o6 : Option V), σ' = [some (.ref g), some (.ref l), some (.ref D), some (.ref La), some (.str g0), o5, o6, none] ∧ Same H G ∧ G D = some (.dK (kN ks f)) ∧ G La = some (.dK lk) ∧
      LaAt CP CL H lk la ∧ BF ls T f la tm ∧ ks.length * ls.length < tm g0, ?_, ?_⟩
  · refine ⟨_, rfl, g, _, rfl, s2 _ _ hg, _, _, rfl, rfl, _, rfl, ?_, ?_, ?_⟩
    · show -(2 ^ 62) ≤ ((kN ks d).length : Int) + 1
      rw [kN_len]; omega
    · show ((kN ks d).length : Int) + 1 < 2 ^ 62
      rw [kN_len]; omega
    have en : (((kN ks d).length : Int) + 1).toNat = ks.length + 1 := by rw [hklen]; omega
    rw [en]
    refine for_range (n := ks.length + 1) (fun j σ' G => ∃ (f : Str → Int) (la : Str → Option (LM Str)) (tm : Str → Nat) (lk : List (Key × V)) (gv : V) (o5 o6 : Option V), σ' = [some (.ref g), some (.ref l), some (.ref D), some (.ref La), some gv, o5, o6, none] ∧ Same H G ∧ G D = some (.dK (kN ks f)) ∧ G La = some (.dK lk) ∧
        LaAt CP CL H lk la ∧ lk.length ≤ j * ls.length ∧ BF ls (j * ls.length) f la tm ∧ (j = 0 ∨ ∃ g0, gv = .str g0 ∧ (j - 1) * ls.length < tm g0))
      ⟨fun _ => 0, fun _ => none, fun _ => 0, [], .non, none, none, rfl, s2, gD2, gLa2, fun x => .inl ⟨rfl, rfl⟩, Nat.zero_le _, by rw [Nat.zero_mul]; exact BF.start, .inl rfl⟩ ?_ ?_
    · rintro j σ' G3 hj ⟨f, la, tm, lk, gv, o5, o6, rfl, s3, g3, l3, hla, hlkl, hB, _⟩
      refine ⟨_, rfl, l, rfl, ⟨_, SqL.of (s3 _ _ hl)⟩, for_it (walk_list (K := K) (a := l) (xs := xs)) (fun i σ' G => ∃ (f : Str → Int) (la : Str → Option (LM Str)) (tm : Str → Nat) (lk : List (Key × V)) (gv : V) (o6 : Option V), σ' = [some (.ref g), some (.ref l), some (.ref D), some (.ref La), some gv, some (.int (0 + (j : Nat))), o6, none] ∧ Same H G ∧ G D = some (.dK (kN ks f)) ∧ G La = some (.dK lk) ∧
          LaAt CP CL H lk la ∧ lk.length ≤ j * ls.length + i ∧ BF ls (j * ls.length + i) f la tm ∧ ((gv = .non ∧ ∀ (i2 : Nat) l2, i2 < i → ls[i2]? = some l2 → ¬ f l2.z + l2.most < f l2.b) ∨ ∃ g0, gv = .str g0 ∧ j * ls.length < tm g0))
        ⟨f, la, tm, lk, .non, o6, rfl, s3, g3, l3, hla, hlkl, hB, .inl ⟨rfl, fun i2 l2 h => absurd h (Nat.not_lt_zero _)⟩⟩ (fun i σ' G _ hh => by obtain ⟨_, _, _, _, _, _, _, h, _⟩ := hh; exact SqL.of (h _ _ hl)) ?_ ?_⟩
      · rintro i y σ' G4 G5 hi ⟨f, la, tm, lk, gv, o6, rfl, s4, g4, l4, hla, hlkl, hB, hgv⟩ ⟨eH, ey⟩
        obtain rfl : G4 = G5 := eH.symm
        have hi' : i < ls.length := by rw [← hxl]; exact hi
        obtain ⟨lm, hlm, hat⟩ := hx.at ey
        obtain ⟨a, dy, pa, rfl, ha, hpa⟩ := id hat
        have ha4 := s4 _ _ ha
        obtain ⟨hb, hz⟩ := hlk lm (List.mem_of_getElem? hlm)
        have hT : ls[(j * ls.length + i) % ls.length]? = some lm := by
          rw [Nat.add_comm, Nat.add_mul_mod_self_right, Nat.mod_eq_of_lt hi']; exact hlm
        refine ⟨_, rfl, _, rfl, a, CL, dy, _, _, rfl, ha4, TL.cl, TL.nb, lf_b, D, _, rfl, hdg g4 hb, _, rfl, _, rfl, a, CL, dy, _, _, rfl, ha4, TL.cl, TL.nt, lf_t, D, _, rfl, hdg g4 hz, _, rfl, a, CL, dy, _, _, rfl, ha4, TL.cl, TL.nm, lf_m, _, _, rfl, rfl, _, _, rfl, rfl, _, rfl, ?_⟩
        by_cases hv : f lm.z + lm.most < f lm.b
        · rw [decide_eq_true hv]
          refine iteT ?_
          refine ⟨_, rfl, _, rfl, a, CL, dy, _, _, rfl, ha4, TL.cl, TL.nt, lf_t, D, _, rfl, hdg g4 hz, _, rfl, a, CL, dy, _, _, rfl, ha4, TL.cl, TL.nm, lf_m, _, _, rfl, rfl, ?_⟩
          refine ⟨_, rfl, _, rfl, a, CL, dy, _, _, rfl, ha4, TL.cl, TL.nb, lf_b, D, _, rfl, DPut.k (k := Sum.inr lm.b) g4 (by rw [kN_len]; exact szl (by omega)), ?_⟩
          rw [kN_put hb]
          have naD : a ≠ D := fun z => by rw [z, nD] at ha; cases ha
          have naL : a ≠ La := fun z => by rw [z, nLaH] at ha; cases ha
          have ha5 : upd G4 D (.dK (kN ks (pt f lm.b (f lm.z + lm.most)))) a = some (.ins CL dy (lf lm.b lm.z pa lm.k lm.most)) := by rw [upd_ne naD]; exact ha4
          have s5 : Same H (upd G4 D (.dK (kN ks (pt f lm.b (f lm.z + lm.most))))) := s4.mut nD
          have g5 : upd G4 D (.dK (kN ks (pt f lm.b (f lm.z + lm.most)))) D = some (.dK (kN ks (pt f lm.b (f lm.z + lm.most)))) := upd_same
          have l5 : upd G4 D (.dK (kN ks (pt f lm.b (f lm.z + lm.most)))) La = some (.dK lk) := by rw [upd_ne nDL.symm]; exact l4
          have eU : (upd G4 D (.dK (kN ks fun x => if x = lm.b then f lm.z + lm.most else f x))) = upd G4 D (.dK (kN ks (pt f lm.b (f lm.z + lm.most)))) := rfl
          rw [eU]
          generalize upd G4 D (.dK (kN ks (pt f lm.b (f lm.z + lm.most)))) = G6 at ha5 s5 g5 l5 ⊢
          have hmul : j * ls.length ≤ 30 * 1000 := Nat.mul_le_mul (by omega) hll
          refine ⟨_, rfl, _, rfl, _, rfl, a, CL, dy, _, _, rfl, ha5, TL.cl, TL.nb, lf_b, La, _, rfl, DPut.k (k := Sum.inr lm.b) l5 (szl (by omega)), ?_⟩
          have s6 : Same H (upd G6 La (.dK (putK lk (Sum.inr lm.b : Key) (.ref a)))) := s5.mut nLaH
          have g6 : upd G6 La (.dK (putK lk (Sum.inr lm.b : Key) (.ref a))) D = some (.dK (kN ks (pt f lm.b (f lm.z + lm.most)))) := by rw [upd_ne nDL]; exact g5
          have ha6 : upd G6 La (.dK (putK lk (Sum.inr lm.b : Key) (.ref a))) a = some (.ins CL dy (lf lm.b lm.z pa lm.k lm.most)) := by rw [upd_ne naL]; exact ha5
          refine ⟨_, rfl, a, CL, dy, _, _, rfl, ha6, TL.cl, TL.nb, lf_b, ?_⟩
          refine ⟨_, _, _, _, .str lm.b, _, rfl, s6, g6, upd_same, hla.put hat, ?_, hB.put hT hv, .inr ⟨lm.b, rfl, by rw [pt_same]; omega⟩⟩
          have := putK_len (kvs := lk) (k := (Sum.inr lm.b : Key)) (v := V.ref a)
          omega
        · rw [decide_eq_false hv]
          refine iteF ⟨f, la, tm, lk, gv, _, rfl, s4, g4, l4, hla, by omega, hB.skip hT hv, ?_⟩
          rcases hgv with ⟨rfl, h⟩ | h
          · refine .inl ⟨rfl, fun i2 l2 h2 e2 => ?_⟩
            by_cases c : i2 < i
            · exact h i2 l2 c e2
            · obtain rfl : i2 = i := by omega
              rw [hlm] at e2; cases e2; exact hv
          · exact .inr h
      · rintro σ' G4 ⟨f, la, tm, lk, gv, o6, rfl, s4, g4, l4, hla, hlkl, hB, hgv⟩
        rw [hxl] at hlkl hB hgv
        rw [← Nat.succ_mul] at hlkl hB
        rcases hgv with ⟨rfl, h⟩ | ⟨g0, rfl, h⟩
        · refine ⟨_, rfl, rfl, true, rfl, iteT ?_⟩
          refine ⟨_, rfl, rd_l0 fun rg G5 nr s5 hr5 => rd_t2 fun r G6 s6 hr6 => ?_⟩
          refine k1 r D rg G6 f ((s4.trans s5).trans s6) hr6 ((s5.trans s6) _ _ g4) (s6 _ _ hr5) fun lm hlm => ?_
          obtain ⟨i, hi, e⟩ := List.mem_iff_getElem.mp hlm
          have := h i lm hi (by rw [List.getElem?_eq_getElem hi, e])
          omega
        · refine ⟨_, rfl, rfl, false, rfl, iteF ?_⟩
          exact ⟨f, la, tm, lk, _, _, _, rfl, s4, g4, l4, hla, hlkl, hB, .inr ⟨g0, rfl, by rw [Nat.add_sub_cancel]; exact h⟩⟩
    · rintro σ' G3 ⟨f, la, tm, lk, gv, o5, o6, rfl, s3, g3, l3, hla, hlkl, hB, hgv⟩
      rcases hgv with h | ⟨g0, rfl, h⟩
      · omega
      · exact ⟨f, la, tm, lk, _, g0, o5, o6, rfl, s3, g3, l3, hla, hB, by rw [Nat.add_sub_cancel] at h; exact h⟩
  rintro σ' G3 ⟨f, la, tm, lk, T0, g0, o5, o6, rfl, s3, g3, l3, hla, hB, hg0⟩
  obtain ⟨hall, p, hp0, hpN, hper⟩ := hB.round hlk hg0
  -- back
  refine ⟨fun σ' G => ∃ (o5 : Option V), σ' = [some (.ref g), some (.ref l), some (.ref D), some (.ref La), some (.str (it la ks.length g0)), o5, o6, none] ∧ G = G3, ?_, ?_⟩
  · refine ⟨_, rfl, g, _, rfl, s3 _ _ hg, _, rfl, ?_, ?_, ?_⟩
    · show -(2 ^ 62) ≤ ((kN ks d).length : Int)
      rw [kN_len]; omega
    · show ((kN ks d).length : Int) < 2 ^ 62
      rw [kN_len]; omega
    have en : (((kN ks d).length : Int)).toNat = ks.length := by rw [hklen]; omega
    rw [en]
    refine for_range (n := ks.length) (fun j σ' G => ∃ (o5 : Option V), σ' = [some (.ref g), some (.ref l), some (.ref D), some (.ref La), some (.str (it la j g0)), o5, o6, none] ∧ G = G3) ⟨_, rfl, rfl⟩ ?_ (fun σ' G h => h)
    rintro j σ' G hj ⟨o5, rfl, rfl⟩
    obtain ⟨lm, hlm⟩ := hall j
    obtain ⟨v, hv, a, dy, pa, rfl, ha, hpa⟩ := hla.get hlm
    refine ⟨_, rfl, _, rfl, La, _, rfl, hlg l3 hv, a, CL, dy, _, _, rfl, s3 _ _ ha, TL.cl, TL.nt, lf_t, some (.int (0 + (j : Nat))), ?_, rfl⟩
    have e : it la (j + 1) g0 = lm.z := by show nx la _ = _; unfold nx; rw [hlm]
    rw [e]; rfl
  rintro σ' G ⟨o5, rfl, rfl⟩
  generalize hy : it la ks.length g0 = y0 at hper ⊢
  have hally : ∀ k, ∃ l, la (it la k y0) = some l := fun k => by rw [← hy, ← it_add]; exact hall _
  have hpery : it la p y0 = y0 := by rw [← hy, ← it_add, hy]; exact hper
  obtain ⟨lm0, hlm0⟩ := hally 0
  obtain ⟨v0, hv0, hat0⟩ := hla.get hlm0
  refine ⟨_, rfl, _, rfl, La, _, rfl, hlg l3 hv0, rd_l1 fun R G4 nR s4 hR4 => ?_⟩
  have s34 := s3.trans s4
  have nRH : H R = none := by
    cases e : H R with
    | none => rfl
    | some o => rw [s3 _ _ e] at nR; cases nR
  have nDR : D ≠ R := fun z => by rw [z, nR] at g3; cases g3
  have nLR : La ≠ R := fun z => by rw [z, nR] at l3; cases l3
  have g4 := s4 _ _ g3
  have l4 := s4 _ _ l3
  refine ⟨fun m σ' G => ∃ (rs : List (LM Str)) (ys : List V) (c : Str), σ' = [some (.ref g), some (.ref l), some (.ref D), some (.ref La), some (.str y0), o5, o6, some (.ref R)] ∧ Same H G ∧ G D = some (.dK (kN ks f)) ∧ G La = some (.dK lk) ∧ G R = some (.lst ys) ∧ Al (LmAt CP CL H) ys rs ∧
      Part ls f la tm y0 rs c ∧ rs.length ≤ p ∧ c = it la rs.length y0 ∧ m = p - rs.length, ⟨p - 1, [lm0], _, lm0.z, rfl, s34, g4, l4, hR4, Al.one hat0, Part.one hB hlm0, hp0, by show _ = nx la y0; unfold nx; rw [show la y0 = some lm0 from hlm0], rfl⟩, ?_⟩
  rintro m σ' G5 ⟨rs, ys, c, rfl, s5, g5, l5, r5, hal, hpt, hrp, hc, rfl⟩
  obtain ⟨e, he, hec⟩ := hpt.last
  obtain ⟨es, rfl⟩ := List.getLast?_eq_some_iff.mp he
  obtain ⟨ys', v, rfl, hal', hev⟩ := hal.split rfl
  obtain ⟨a, dy, pa, rfl, ha, hpa⟩ := hev
  have ha5 := s5 _ _ ha
  refine ⟨_, rfl, _, rfl, R, _, _, _, rfl, rfl, SqL.of r5, atI_last _ _, a, CL, dy, _, _, rfl, ha5, TL.cl, TL.nt, lf_t, _, rfl, rfl, _, rfl, ?_⟩
  rw [dec_str, hec]
  by_cases hcy : c = y0
  · rw [decide_eq_true hcy]
    refine iteF ?_
    refine ⟨_, rfl, _, rfl, rd_t2 fun r G6 s6 hr6 => ?_⟩
    exact k2 r D R G6 f _ _ y0 (s5.trans s6) hr6 (s6 _ _ g5) (s6 _ _ r5) (hal.mono fun _ _ z => z.same (s5.trans s6)) (hcy ▸ hpt).ring (by omega)
  · rw [decide_eq_false hcy]
    refine iteT ?_
    have hlt : (es ++ [e]).length < p := by
      refine Nat.lt_of_le_of_ne hrp fun z => hcy ?_
      rw [hc, z, hpery]
    obtain ⟨lm, hlm⟩ := hally (es ++ [e]).length
    rw [← hc] at hlm
    obtain ⟨v2, hv2, hat2⟩ := hla.get hlm
    refine ⟨fun σ' G => ∃ (rs : List (LM Str)) (ys : List V) (c : Str), σ' = [some (.ref g), some (.ref l), some (.ref D), some (.ref La), some (.str y0), o5, o6, some (.ref R)] ∧ Same H G ∧ G D = some (.dK (kN ks f)) ∧ G La = some (.dK lk) ∧ G R = some (.lst ys) ∧ Al (LmAt CP CL H) ys rs ∧
      Part ls f la tm y0 rs c ∧ rs.length ≤ p ∧ c = it la rs.length y0 ∧ rs.length = (es ++ [e]).length + 1, ?_, ?_⟩
    · rintro σ' G' ⟨rs, ys, c2, h1, h2, h3, h4, h5, h6, h7, h8, h9, h10⟩
      exact ⟨p - rs.length, by omega, rs, ys, c2, h1, h2, h3, h4, h5, h6, h7, h8, h9, rfl⟩
    refine ⟨_, rfl, .inl ⟨rfl, _, SqL.of r5⟩, ?_⟩
    refine ⟨_, rfl, _, rfl, _, rfl, R, _, _, _, rfl, rfl, SqL.of r5, atI_last _ _, a, CL, dy, _, _, rfl, ha5, TL.cl, TL.nt, lf_t, La, _, rfl, hlg l5 (by rw [hec]; exact hv2), ?_⟩
    have hlen : (ys' ++ [V.ref a]).length = (es ++ [e]).length := hal.1
    refine ⟨R, _, _, rfl, rfl, r5, szl (by omega), ?_⟩
    refine ⟨(es ++ [e]) ++ [lm], (ys' ++ [V.ref a]) ++ [v2], lm.z, rfl, s5.mut nRH, by rw [upd_ne nDR]; exact g5, by rw [upd_ne nLR]; exact l5, upd_same, hal.snoc hat2, hpt.snoc hB hlm, ?_, ?_, ?_⟩
    · rw [List.length_append]; exact hlt
    · rw [List.length_append]
      show _ = nx la (it la (es ++ [e]).length y0)
      rw [← hc]; unfold nx; rw [hlm]
    · rw [List.length_append]; rfl
end
end PN
set_option maxHeartbeats 4000000
/-! set(list of ints), sorted(a set of ints) of any size -/
namespace LayT
open PySem PySem.Spec PyProof.Rows L2
section
variable {P : Program} {w : World} {A : Around} {E : Value → Shared → Prop} {s : Shared}
abbrev newSet (w : World) : Obj := { cls := .type "set", dict := none, data := .set #[] 0 (.fresh 0 0 (!w.params.followText "set-order")) }
set_option maxRecDepth 100000 in
set_option maxHeartbeats 3200000 in
theorem set_of_ints {l : Addr} {items : Array Value} (ns : List Int) {Q : Value → Shared → Prop} (calm : A.handled = none) (hl : s.heap.IsList l items) (are : IntsAre items.toList ns) (few : ns.length + 1 < scanBound)
    (go : ∀ (h' : Heap) (tk c : Nat), SetR w h' s.heap.objs.size (fun j => decide (j ∈ ns)) c → c ≤ ns.length → (∀ b o, s.heap.get? b = some o → h'.get? b = some o) → Q (.ref s.heap.objs.size) { s with heap := h', toks := tk }) :
    wpAny (model P w) A (call (.type "set") [.ref l]) Q E s := by
  have lenI : items.size = ns.length := by rw [← Array.length_toList]; exact IntsAre.length are
  obtain ⟨c, tl, hmro⟩ := F.called_set.mro
  have hmade := F.called_set.made
  have hsub := F.called_set.sub
  refine wpAny_call (codeAny_of_tree ?_)
  show wpAny _ _ (callAny (.type "set") _) _ _ _
  refine wpAny_pure ⟨Code.quiet_builtin _ (by decide +kernel), codeAny_builtin F.entry_type_call ?_⟩
  rw [Around.under_plain (weight_type_call_type "set" [.ref l] []) rfl]
  have hnt := F.called_set.notType
  have hcc := F.called_set.canCreate
  have htc := F.typeCall_set_1 (.ref l)
  repeat (any_goals (first | assumption | wp_step))
  refine codeAny_mono (code_set_led1 (.ref l) (E := E) (Q₁ := fun obj s₁ => obj = .ref s.heap.objs.size ∧ s₁ = { s with heap := s.heap.push (newSet w) }) ⟨rfl, rfl⟩) fun r s₁ hr => ?_
  cases r with
  | error e => exact hr
  | ok fl =>
    cases fl with
    | ret obj =>
      obtain ⟨rfl, rfl⟩ := hr
      have atS : (s.heap.push (newSet w)).get? s.heap.objs.size = some (newSet w) := Heap.get?_push_size _ rfl
      have tyS : Shared.TypeIs { s with heap := s.heap.push (newSet w) } (.ref s.heap.objs.size) "set" := ⟨_, atS, rfl⟩
      have hil := F.called_set.init.lookup
      have hib := F.called_set.init.bind (.ref s.heap.objs.size)
      repeat (any_goals (first | assumption | wp_step))
      refine codeAny_mono (codeAny_call_builtin (R := wants (fun r s₂ => r = .none ∧ ∃ h' tk c, s₂ = { s with heap := h', toks := tk } ∧ SetR w h' s.heap.objs.size (fun j => decide (j ∈ ns)) c ∧ c ≤ ns.length ∧
          (∀ b o, s.heap.get? b = some o → h'.get? b = some o)) E) F.called_set.init.plain F.entry_set_init (check_set_init_1 tyS ?_)) fun r₂ s₂ hr₂ => ?_
      · obtain ⟨ol, hol, hcl, nl, hdl⟩ := hl
        obtain ⟨ocls, odict, odata, oslots⟩ := ol
        simp only at hcl hdl
        subst hcl; subst hdl
        have hol1 : (s.heap.push (newSet w)).get? l = some { cls := .type "list", dict := odict, data := .seq items nl, slots := oslots } := Heap.get?_push_of_some _ hol
        have hsu1 := F.sub_list_set
        have hsu2 := F.sub_list_frozenset
        have hnd : (Value.type "list" == Value.type "dict") = false := by decide
        have hl1 : (s.heap.push (newSet w)).IsList l items := ⟨_, hol1, rfl, nl, rfl⟩
        unfold Builtin.«set.__init__» noKeywords Builtin.Frozenset.updateFrom
        generalize hPI : pyIter = PI
        wp_walk
        subst hPI
        refine wpAny_pyIter_list hl1 ?_
        refine wpAny_bind (wpAny_runValue ?_)
        have ltS : l < s.heap.objs.size := Heap.lt_size hol
        have calm3 : A.in1.in1.in1.handled = none := by simp [calm]
        have neI : l ≠ (s.heap.push (newSet w)).objs.size := by
          rw [Heap.size_push]; exact Nat.ne_of_lt (Nat.lt_succ_of_lt ltS)
        have notIn : s.heap.objs.size ∉ [(s.heap.push (newSet w)).objs.size, l] := by
          rw [Heap.size_push]; simp only [List.mem_cons, List.mem_singleton, List.not_mem_nil, or_false, not_or]
          exact ⟨Nat.ne_of_lt (Nat.lt_succ_self _), Nat.ne_of_gt ltS⟩
        have valI : ∀ (i : Nat) (v : Value), items[i]? = some v → ∃ k t, ns[i]? = some k ∧ v = .int k t := fun i v hv => by
          have hi : i < ns.length := by rw [← lenI]; exact (Array.getElem?_eq_some_iff.mp hv).1
          obtain ⟨t, e⟩ := PyProof.Rows.IntsAre.int_at are i v (by rw [Array.getElem?_toList]; exact hv)
          refine ⟨ns[i], t, List.getElem?_eq_getElem hi, ?_⟩
          rw [e, List.getD_eq_getElem?_getD, List.getElem?_eq_getElem hi] <;> rfl
        refine set_update_ints ((Walks.list calm3 _ l neI items).toS) s.heap.objs.size
          notIn ns lenI few valI (items.size - 0) 0 _ (by omega) (Nat.zero_le _)
          ⟨⟨_, Heap.get?_push_size _ rfl, rfl, rfl⟩, (hl1.push _)⟩ ?start ?last
        case start =>
          exact ⟨0, Nat.le_refl 0, setR_new_at (Heap.get?_push_of_some _ atS)⟩
        case last =>
          intro s' c' hm hc' hS'
          obtain ⟨h', g2, d', tk', os'⟩ := s'
          have eg : g2 = s.gens := hm.gens
          have ed : d' = s.drawn := hm.drawn
          have eo : os' = s.os := hm.os
          subst eg; subst ed; subst eo
          show wpAny _ _ _ _ _ _
          refine wpAny_pure ?_
          show wpAny _ _ (ret Value.none) _ _ _
          rw [lenI] at hc'
          refine wpAny_pure ⟨rfl, h', tk', c', rfl, hS', hc', fun b o e => ?_⟩
          have b0 : b < s.heap.objs.size := Heap.lt_size e
          refine hm.heap b o ?_ (Heap.get?_push_of_some _ (Heap.get?_push_of_some _ e))
          simp only [List.mem_cons, List.mem_singleton, List.not_mem_nil, or_false, not_or]
          refine ⟨Nat.ne_of_lt b0, ?_⟩
          rw [Heap.size_push]; exact Nat.ne_of_lt (Nat.lt_succ_of_lt b0)
      · cases r₂ with
        | error e => exact hr₂
        | ok fl₂ =>
          cases fl₂ with
          | ret r =>
            obtain ⟨rfl, h', tk, c, rfl, hS', hc', hk'⟩ := hr₂
            repeat (any_goals (first | assumption | wp_step))
            exact go _ _ _ hS' hc' hk'
          | _ => exact hr₂.elim
    | _ => exact hr.elim
theorem sorted_of_set {a : Addr} {S : Int → Bool} {n : Nat} {Q : Value → Shared → Prop} (R : SetR w s.heap a S n) (calm : A.handled = none) (few : n ≤ 1000)
    (go : ∀ s' p (out : List Value) (c : Nat) (ns : List Int), (∀ b o, s.heap.get? b = some o → s'.heap.get? b = some o) → s'.gens = s.gens → s'.os = s.os → s.heap.objs.size ≤ p →
      s'.heap.get? p = some (seqObj "list" out.toArray c) → IntsAre out ns → ns.Pairwise (· < ·) → (∀ k, k ∈ ns ↔ S k = true) → ns.length = n → Q (.ref p) s') :
    wpAny (model P w) A (call (.builtin "sorted") [.ref a]) Q E s := by
  obtain ⟨o, es, ep, t, ho, hex, hd, good, nd, hm, hb, hf, hn, ris, led⟩ := R
  refine Calls.call_function_entry kind_sorted plain_sorted entry_sorted (args_sorted1 _) ?_
  unfold Builtin.«sorted»
  refine wpAny_bind (m := checkCount "sorted" 1 1 _) (wpAny_pure ?_)
  refine wpAny_bind (collect_set (A := A.in1) calm ⟨o, ho, hex.1, hd⟩ hf hb ris led fun s1 vs keep grow gens os perm => ?_)
  have lenV : vs.length = n := by rw [perm.length_eq, List.length_map, Array.length_toList]; exact hn
  have are : IntsAre vs (vs.map Builtin.Re.reRawOf) := ints_of vs fun v hv => by
    obtain ⟨e, he, q⟩ := List.mem_map.mp (perm.mem_iff.mp hv)
    obtain ⟨k, tk, h1, _⟩ := good e he
    exact ⟨k, tk, by rw [← q]; exact h1⟩
  have pk : (vs.map Builtin.Re.reRawOf).Perm (es.toList.map keyOf) := by
    have q := perm.map Builtin.Re.reRawOf
    rw [List.map_map] at q
    exact q
  have small : vs.length ≤ sizeLine := by rw [lenV, sizeLine_eq]; omega
  refine wpAny_bind (wpAny_newList ?_ small)
  have newL : (s1.heap.push (seqObj "list" vs.toArray 0)).get? s1.heap.objs.size = some (seqObj "list" vs.toArray 0) := Heap.get?_push_size _ rfl
  refine wpAny_bind (wpAny_holding (wpAny_call_entry slot_list_sort ⟨_, newL, rfl⟩ entry_list_sort (SrtO.list_sort_ord SrtO.swo_int newL small (fun h2 => SrtO.ints_sortable are h2) fun out h1 h2 => ⟨_, rfl, ?_⟩) (args_list_sort _)))
  obtain ⟨k1, k2, k3⟩ := SrtO.ints_out are h1 h2
  obtain ⟨c, hc⟩ := sortedHeap_at (vs := vs) (out := out.toArray) newL
  have pn : (out.map SrtO.iv).Perm (es.toList.map keyOf) := k2.trans pk
  refine wpAny_pure ⟨_, rfl, go _ s1.heap.objs.size out c (out.map SrtO.iv) (fun b u e => ?_) gens os grow hc k1 (lt_of_le_nodup _ k3 (pn.nodup_iff.mpr nd)) (fun k => by rw [pn.mem_iff, ← hm k]) ?_⟩
  · have q := keep b u e
    have hlt := Heap.lt_size q
    show (sortedHeap (s1.heap.push (seqObj "list" vs.toArray 0)) s1.heap.objs.size vs out.toArray).get? b = some u
    rw [sortedHeap_old (Nat.ne_of_lt hlt) (by rw [size_push']; exact Nat.lt_succ_of_lt hlt)]
    exact Heap.get?_push_of_some _ q
  · rw [pn.length_eq, List.length_map, Array.length_toList]; exact hn
end
section
variable {X : Cx}
def rSetI (K : PySem.W.Frag) (w : World) : List V → Hp → VK → Prop := fun xs H Q => ∃ (l : Addr) (ns : List Int), xs = [V.ref l] ∧ SqL K H l (ns.map V.int) ∧ ns.length ≤ 1000 ∧
  ∀ a c, H a = none → c ≤ 1000 → Q (.ref a) (upd H a (SetO w a (fun j => decide (j ∈ ns)) c))
theorem cr_setI (calm : X.calm = true) : CallR X (.type "set") (rSetI X.K X.w) := by
  intro pins s σ H xs us Q I r h
  obtain ⟨l, ns, rfl, hl, few, q⟩ := h
  rw [Vals.ref1 r]
  obtain ⟨its, rv, pl, hz⟩ := I.list hl
  have free : H s.heap.objs.size = none := I.hok.fresh (Nat.le_refl _)
  refine set_of_ints (P := X.prog) (w := X.w) ns (I.ok.hd calm) pl.isList (by simpa using rv.ints) (by unfold scanBound; omega) fun h' tk c R hc k => ?_
  exact ⟨.ref s.heap.objs.size, upd H s.heap.objs.size (SetO X.w s.heap.objs.size (fun j => decide (j ∈ ns)) c), I.laid (t' := tk) k (Nat.le_refl _) (setO_new R), rfl, q _ c free (by omega)⟩
def rSortedSetI (w : World) : List V → Hp → VK → Prop := fun vs H Q => ∃ (a : Addr) (S : Int → Bool) (n : Nat), vs = [V.ref a] ∧ H a = some (SetO w a S n) ∧ n ≤ 1000 ∧
  ∀ (ns : List Int) (p : Addr), ns.Pairwise (· < ·) → (∀ k : Int, k ∈ ns ↔ S k = true) → ns.length = n → H p = none → Q (.ref p) (upd H p (.lst (ns.map V.int)))
theorem cr_sortedSetI (calm : X.calm = true) : CallR X (.builtin "sorted") (rSortedSetI X.w) := by
  intro pins s σ H vs us Q I r h
  obtain ⟨a, S, n, rfl, ha, few, q⟩ := h
  have R := setO_get I ha
  rw [Vals.ref1 r]
  refine sorted_of_set R (I.ok.hd calm) few fun s' p out c ns k g o hp hg hi hs hm hl => ?_
  have small : (ns.map V.int).length ≤ sizeLine := by rw [List.length_map, hl, sizeLine_eq]; omega
  have free : H p = none := I.hok.fresh hp
  have J : Inv X pins σ (upd H p (.lst (ns.map V.int))) { s with heap := s'.heap, gens := s'.gens, drawn := s'.drawn, toks := s'.toks } :=
    I.call (ch := []) (Un.laid k hp free) (I.hok.laid k hp ⟨small, out, c, vals_of_ints hi, hg⟩) (by rw [g]; exact I.bare) (fun _ z => nomatch z)
  have e : s' = { s with heap := s'.heap, gens := s'.gens, drawn := s'.drawn, toks := s'.toks } := by
    cases s'
    cases s
    cases o
    rfl
  rw [e]
  exact ⟨.ref p, _, J, rfl, q ns p hs hm hl free⟩
end
end LayT
namespace PN
open PySem PySem.Spec PyProof.Rows L2 LayT
theorem szM {n : Nat} (h : n ≤ 10000000) : n ≤ sizeLine := Nat.le_trans h (by decide)
theorem szlM {n : Nat} (h : n ≤ 10000000) : n < sizeLine := Nat.lt_of_le_of_lt h (by decide)
theorem pfd {X : Cx} {e : Expr} {ta : TE} {f : Str} {pos : Pos} (K : PySem.W.Frag) (he : PE X e ta) (hb : attributeBase e f X.env (eval e X.env) = eval e X.env := by rfl) (h : X.K = K := by rfl) : PE X (.Attribute e f pos) (tFld K ta f) := h ▸ pe_fld he hb
/-! ### cuts -/
abbrev Cut1 : Type := Sum Str (Nat × Nat)
def CutAt (H : Hp) (x : V) : Cut1 → Prop
  | .inl s => x = .str s
  | .inr (a, b) => ∃ t, x = .ref t ∧ H t = some (.tup [.int ((a : Nat) : Int), .int ((b : Nat) : Int)])
theorem CutAt.tups {H H' : Hp} {x : V} {c : Cut1} (h : CutAt H x c) (s : Tups H H') : CutAt H' x c := by
  cases c with
  | inl a => exact h
  | inr p => obtain ⟨t, e, h1⟩ := h; exact ⟨t, e, s _ _ h1⟩
def walkOf (rs : List (LM Str)) : List Nat := rs.flatMap LM.p
def cutsOf (n : Nat) : List (LM Str) → List Cut1
  | [] => []
  | l :: r => (if l.k = true then [Sum.inr (n, n + l.p.length)] else []) ++ cutsOf (n + l.p.length) r
theorem cutsOf_snoc {n : Nat} {rs : List (LM Str)} {l : LM Str} : cutsOf n (rs ++ [l]) = cutsOf n rs ++ (if l.k = true then [Sum.inr (n + (walkOf rs).length, n + (walkOf rs).length + l.p.length)] else []) := by
  induction rs generalizing n with
  | nil => simp [cutsOf, walkOf]
  | cons a rs ih =>
    rw [List.cons_append]
    unfold cutsOf
    rw [ih, List.append_assoc]
    unfold walkOf
    rw [List.flatMap_cons, List.length_append]
    simp only [Nat.add_assoc]
theorem walkOf_snoc {rs : List (LM Str)} {l : LM Str} : walkOf (rs ++ [l]) = walkOf rs ++ l.p := by
  unfold walkOf
  rw [List.flatMap_append]; simp
theorem walkOf_len {rs : List (LM Str)} (h : ∀ r ∈ rs, r.p.length ≤ 16384) : (walkOf rs).length ≤ rs.length * 16384 := by
  induction rs with
  | nil => exact Nat.zero_le _
  | cons a rs ih =>
    unfold walkOf at *
    rw [List.flatMap_cons, List.length_append, List.length_cons, Nat.succ_mul]
    have := ih fun r hr => h r (List.mem_cons_of_mem _ hr)
    have := h a List.mem_cons_self
    omega
theorem cutsOf_len {n : Nat} {rs : List (LM Str)} : (cutsOf n rs).length ≤ rs.length := by
  induction rs generalizing n with
  | nil => exact Nat.zero_le _
  | cons a rs ih =>
    unfold cutsOf
    rw [List.length_append, List.length_cons]
    have := ih (n := n + a.p.length)
    split <;> simp <;> omega
theorem lf_k {b t : Str} {pa : Addr} {k : Bool} {m : Int} : (lf b t pa k m).lookup ("keeps" : Str) = some (.bl k) := by
  simp only [lf, List.lookup, show (("keeps" : Str) == "begin") = false by decide +kernel, show (("keeps" : Str) == "to") = false by decide +kernel, show (("keeps" : Str) == "path") = false by decide +kernel, show (("keeps" : Str) == "keeps") = true by decide +kernel]
theorem lf_p {b t : Str} {pa : Addr} {k : Bool} {m : Int} : (lf b t pa k m).lookup ("path" : Str) = some (.ref pa) := by
  simp only [lf, List.lookup, show (("path" : Str) == "begin") = false by decide +kernel, show (("path" : Str) == "to") = false by decide +kernel, show (("path" : Str) == "path") = true by decide +kernel]
section
variable {P : Program} {w : World} {K : PySem.W.Frag} {mg : Str → Option Value} {base : Heap} {C CP CL CF : Addr}
/-! ### walk_of -/
def spWalkOf (CP CL : Addr) : Sp := fun vs H Q _ => ∃ (l : Addr) (xs : List V) (rs : List (LM Str)), vs = [.ref l] ∧ H l = some (.lst xs) ∧ Al (LmAt CP CL H) xs rs ∧ (∀ r ∈ rs, r.p.length ≤ 16384) ∧ rs.length ≤ 30 ∧
  ∀ r wa ca cx H', Same H H' → H' r = some (.tup [.ref wa, .ref ca]) → H' wa = some (.lst (iV (walkOf rs))) → H' ca = some (.lst cx) → Al (CutAt H') cx (cutsOf 0 rs) → Q (.ref r) H'
abbrev nWalkOf : List Str := ["ring", "walk", "cuts", "limit"]
theorem scWalkOf : FnScope nWalkOf ["ring"] (defScope sWalkOf) := ⟨rfl, rfl, rfl, by decide +kernel, rfl, by decide +kernel, by decide +kernel⟩
theorem ok_walkof {f : Addr} {fd : FuncData} (F : Fun K "walk_of" "walk_of" sWalkOf f fd) (T : Txt K mg) (TA : TxtPa K mg CP) (TL : TxtL K mg CL) : FnOk P w K mg base CX0 1 f fd ["ring"] (spWalkOf CP CL) := by
  refine F.ok scWalkOf (fun vs H Q E h => ?_) (fun cdv A outer s H vs Q E hr h => ?_)
  · obtain ⟨l, xs, rs, rfl, _⟩ := h
    rfl
  obtain ⟨l, xs, rs, rfl, hl, hx, hp, hrl, k⟩ := h
  have nd := scWalkOf.nd
  have hu := hu_of hr
  have hxl := hx.1
  refine ⟨_, pss_cons (ps_par (i := 1) (j := 2) (by rfl) nd rfl rfl (by decide) rfl rfl (pa_cons (plst pa_nil) (pa_cons (plst pa_nil) pa_nil)) (by rfl))
    (pss_cons (ps_for PassesOwn.never rfl (pi_list (pv 0)) (pg_name (i := 3) nd rfl (.inl rfl))
      (Evl.pss_cut (ps_if (pt_val (pe_fld (pv 3) rfl)) (pss_one (ps_expr (pe_bm PySem.F.plainAttrs_list PySem.F.slot_list_append PySem.F.type_list_append mt_append (pv 2) (pa_cons
          (ptup (pa_cons (pe_callB call_len_seq (by rfl) T.len PySem.boot_len (pa_cons (pv 1) pa_nil)) (pa_cons (pe_op op_add (pe_callB call_len_seq (by rfl) T.len PySem.boot_len (pa_cons (pv 1) pa_nil)) (pe_callB call_len_seq (by rfl) T.len PySem.boot_len (pa_cons (pe_fld (pe_fld (pv 3) rfl) rfl) pa_nil))) pa_nil))) pa_nil)))) pss_nil)
      (pss_one (ps_expr (pe_bm PySem.F.plainAttrs_list PySem.F.slot_list_extend PySem.F.type_list_extend mt_extend (pv 1) (pa_cons (pe_callTy call_list_of (by rfl) T.list (by decide +kernel) (pa_cons (pe_fld (pe_fld (pv 3) rfl) rfl) pa_nil)) pa_nil))))))
    (pss_one (ps_ret (ptup (pa_cons (pv 1) (pa_cons (pv 2) pa_nil)))))), ?_⟩
  refine rd_l0 fun wa H1 nwa s1 hwa => rd_l0 fun ca H2 nca s2 hca => ?_
  have s12 := s1.trans s2
  have hwa2 := s2 _ _ hwa
  have nwc : wa ≠ ca := fun z => by rw [z, nca] at hwa; cases hwa
  have ncaH : H ca = none := by
    cases e : H ca with
    | none => rfl
    | some o => rw [s1 _ _ e] at nca; cases nca
  refine ⟨_, _, rfl, ?_⟩
  refine ⟨_, rfl, l, rfl, ⟨_, SqL.of (s12 _ _ hl)⟩, for_it (walk_list (K := K) (a := l) (xs := xs)) (fun j σ' G => ∃ (o3 : Option V) (cx : List V), σ' = [some (.ref l), some (.ref wa), some (.ref ca), o3] ∧ Same H G ∧ G wa = some (.lst (iV (walkOf (rs.take j)))) ∧ G ca = some (.lst cx) ∧ Al (CutAt G) cx (cutsOf 0 (rs.take j)))
    ⟨_, [], rfl, s12, hwa2, hca, Al.nil⟩ (fun j σ' G _ hh => by obtain ⟨_, _, _, h, _⟩ := hh; exact SqL.of (h _ _ hl)) ?_ ?_⟩
  · rintro j y σ' G G' hj ⟨o3, cx, rfl, sG, gw, gc, hc⟩ ⟨eH, ey⟩
    obtain rfl : G = G' := eH.symm
    obtain ⟨lm, hlm, a, dy, pa, rfl, ha, dp, pl, ys, hpa, hpl, rfl, hne⟩ := hx.at ey
    have ha3 := sG _ _ ha
    have hlmm := List.mem_of_getElem? hlm
    have hpp := hp lm hlmm
    have hjl : j < rs.length := (List.getElem?_eq_some_iff.mp hlm).1
    have hwl : (walkOf (rs.take j)).length ≤ 30 * 16384 := by
      refine Nat.le_trans (walkOf_len fun r hr => hp r (List.mem_of_mem_take hr)) (Nat.mul_le_mul_right _ ?_)
      rw [List.length_take]; omega
    have hcl : cx.length ≤ 30 := by
      rw [hc.1]
      refine Nat.le_trans cutsOf_len ?_
      rw [List.length_take]; omega
    have nwl : ∀ {b : Addr} {o : HO}, H b = some o → b ≠ wa := fun {b o} e z => by rw [z, nwa] at e; cases e
    have ncl : ∀ {b : Addr} {o : HO}, H b = some o → b ≠ ca := fun {b o} e z => by rw [z, ncaH] at e; cases e
    refine ⟨fun σ' G2 => ∃ (cx2 : List V), σ' = [some (.ref l), some (.ref wa), some (.ref ca), some (.ref a)] ∧ Same H G2 ∧ G2 wa = some (.lst (iV (walkOf (rs.take j)))) ∧ G2 ca = some (.lst cx2) ∧ Al (CutAt G2) cx2 (cutsOf 0 (rs.take (j + 1))), ?_, ?_⟩
    · rw [take_succ_at hlm, cutsOf_snoc, Nat.zero_add]
      refine ⟨_, rfl, a, CL, dy, _, _, rfl, ha3, TL.cl, TL.nk, lf_k, lm.k, rfl, ?_⟩
      cases hk : lm.k with
      | false =>
        refine iteF ⟨cx, rfl, sG, gw, gc, ?_⟩
        rw [if_neg (by decide), List.append_nil]
        exact hc
      | true =>
        refine iteT ?_
        refine ⟨_, rfl, .inl ⟨rfl, _, SqL.of gc⟩, ?_⟩
        refine ⟨_, rfl, wa, _, rfl, .inl (SqL.of gw), ?_⟩
        refine ⟨_, rfl, wa, _, rfl, .inl (SqL.of gw), ?_⟩
        refine ⟨_, rfl, a, CL, dy, _, _, rfl, ha3, TL.cl, TL.np, lf_p, pa, CP, dp, _, _, rfl, sG _ _ hpa, TA.cl, TA.np, pf_p, pl, _, rfl, .inr (SqT.of (sG _ _ hpl)), _, _, rfl, rfl, rd_t2 fun t G3 s3 ht => ?_⟩
        have gc3 := s3 _ _ gc
        have ntc : t ≠ ca := fun z => by rw [z, gc3] at ht; cases ht
        have tW : Tups G3 (upd G3 ca (.lst (cx ++ [.ref t]))) := fun b zs e => by rw [upd_ne (fun w => by rw [w, gc3] at e; cases e)]; exact e
        refine ⟨ca, _, _, rfl, rfl, gc3, szl (by omega), ?_⟩
        refine ⟨_, rfl, (sG.trans s3).mut ncaH, by rw [upd_ne nwc]; exact s3 _ _ gw, upd_same, ?_⟩
        rw [if_pos rfl]
        refine ((hc.mono fun _ _ z => z.tups s3.tups).mono fun _ _ z => z.tups tW).snoc ⟨t, rfl, tW _ _ ?_⟩
        rw [ht, iV_len, iV_len, Int.natCast_add]
    · rintro σ' G2 ⟨cx2, rfl, sG2, gw2, gc2, hc2⟩
      refine ⟨_, rfl, .inl ⟨rfl, _, SqL.of gw2⟩, ?_⟩
      refine ⟨_, rfl, a, CL, dy, _, _, rfl, sG2 _ _ ha, TL.cl, TL.np, lf_p, pa, CP, dp, _, _, rfl, sG2 _ _ hpa, TA.cl, TA.np, pf_p, pl, _, rfl, .inr (SqT.of (sG2 _ _ hpl)), fun q nq => ?_⟩
      have sq := same_upd (o := HO.lst (iV lm.p)) nq
      have hq : upd G2 q (.lst (iV lm.p)) q = some (.lst (iV lm.p)) := upd_same
      have hc3 := hc2.mono (S := CutAt (upd G2 q (.lst (iV lm.p)))) fun _ _ z => z.tups sq.tups
      generalize upd G2 q (.lst (iV lm.p)) = G3 at sq hq hc3 ⊢
      have gw3 := sq _ _ gw2
      have tW : Tups G3 (upd G3 wa (.lst (iV (walkOf (rs.take j)) ++ iV lm.p))) := fun b zs e => by rw [upd_ne (fun w => by rw [w, gw3] at e; cases e)]; exact e
      refine ⟨wa, q, _, _, rfl, rfl, gw3, hq, szM (by rw [iV_len, iV_len]; omega), ?_⟩
      refine ⟨_, cx2, rfl, (sG2.trans sq).mut nwa, ?_, by rw [upd_ne nwc.symm]; exact sq _ _ gc2, hc3.mono fun _ _ z => z.tups tW⟩
      rw [upd_same, take_succ_at hlm, walkOf_snoc, iV_app]
  · rintro σ' G ⟨o3, cx, rfl, sG, gw, gc, hc⟩
    rw [hxl, List.take_length] at gw hc
    refine ⟨_, rfl, _, rfl, rd_t2 fun r G2 s2 hr2 => ?_⟩
    exact k r wa ca cx G2 (sG.trans s2) hr2 (s2 _ _ gw) (s2 _ _ gc) (hc.mono fun _ _ z => z.tups s2.tups)
/-! ### Fastest -/
def ff (b : Int) (m wa ca : Addr) : List (Str × V) := [(("beat" : Str), .int b), (("moves" : Str), .ref m), (("walk" : Str), .ref wa), (("cuts" : Str), .ref ca)]
theorem ff_b {b : Int} {m wa ca : Addr} : (ff b m wa ca).lookup ("beat" : Str) = some (.int b) := by
  simp only [ff, List.lookup, show (("beat" : Str) == "beat") = true by decide +kernel]
theorem ff_m {b : Int} {m wa ca : Addr} : (ff b m wa ca).lookup ("moves" : Str) = some (.ref m) := by
  simp only [ff, List.lookup, show (("moves" : Str) == "beat") = false by decide +kernel, show (("moves" : Str) == "moves") = true by decide +kernel]
theorem ff_w {b : Int} {m wa ca : Addr} : (ff b m wa ca).lookup ("walk" : Str) = some (.ref wa) := by
  simp only [ff, List.lookup, show (("walk" : Str) == "beat") = false by decide +kernel, show (("walk" : Str) == "moves") = false by decide +kernel, show (("walk" : Str) == "walk") = true by decide +kernel]
theorem ff_c {b : Int} {m wa ca : Addr} : (ff b m wa ca).lookup ("cuts" : Str) = some (.ref ca) := by
  simp only [ff, List.lookup, show (("cuts" : Str) == "beat") = false by decide +kernel, show (("cuts" : Str) == "moves") = false by decide +kernel, show (("cuts" : Str) == "walk") = false by decide +kernel, show (("cuts" : Str) == "cuts") = true by decide +kernel]
theorem ff_no {b : Int} {m wa ca : Addr} {x : Str} (h1 : (x == ("beat" : Str)) = false) (h2 : (x == ("moves" : Str)) = false) (h3 : (x == ("walk" : Str)) = false) (h4 : (x == ("cuts" : Str)) = false) : (ff b m wa ca).lookup x = none := by
  simp only [ff, List.lookup, h1, h2, h3, h4]
theorem ff_eq (b : Int) (m wa ca : Addr) : putF "cuts" (.ref ca) (putF "walk" (.ref wa) (putF "moves" (.ref m) (putF "beat" (.int b) []))) = ff b m wa ca := by
  simp only [putF_nil, putF_ne (show ¬ ("beat" : Str) = "moves" by decide +kernel), putF_ne (show ¬ ("beat" : Str) = "walk" by decide +kernel), putF_ne (show ¬ ("beat" : Str) = "cuts" by decide +kernel), putF_ne (show ¬ ("moves" : Str) = "walk" by decide +kernel), putF_ne (show ¬ ("moves" : Str) = "cuts" by decide +kernel), putF_ne (show ¬ ("walk" : Str) = "cuts" by decide +kernel)]
  rfl
structure TxtF (K : PySem.W.Frag) (mg : Str → Option Value) (CF : Addr) : Prop where
  cl : Cls K CF
  nb : NoAttr K CF "beat"
  nm : NoAttr K CF "moves"
  nw : NoAttr K CF "walk"
  nc : NoAttr K CF "cuts"
  g : mg "Fastest" = some (.ref CF)
structure FsAt (CF : Addr) (H : Hp) (p : Addr) (b : Int) (ks : List Str) (f : Str → Int) (wk : List Nat) (cs : List Cut1) : Prop where
  ex : ∃ dx m wa ca xs, H p = some (.ins CF dx (ff b m wa ca)) ∧ H m = some (.dK (kN ks f)) ∧ H wa = some (.lst (iV wk)) ∧ H ca = some (.lst xs) ∧ Al (CutAt H) xs cs
theorem FsAt.same {H H' : Hp} {p : Addr} {b : Int} {ks : List Str} {f : Str → Int} {wk : List Nat} {cs : List Cut1} (h : FsAt CF H p b ks f wk cs) (s : Same H H') : FsAt CF H' p b ks f wk cs := by
  obtain ⟨dx, m, wa, ca, xs, h1, h2, h3, h4, h5⟩ := h.ex
  exact ⟨dx, m, wa, ca, xs, s _ _ h1, s _ _ h2, s _ _ h3, s _ _ h4, h5.mono fun _ _ z => z.tups s.tups⟩
def spFI (CF : Addr) : Sp := fun vs H Q _ => ∃ (p dx : Addr) (b : Int) (m wa ca : Addr) (ks : List Str) (f : Str → Int) (wk : List Nat) (xs : List V) (cs : List Cut1), vs = [.ref p, .int b, .ref m, .ref wa, .ref ca] ∧ H p = some (.ins CF dx []) ∧ H m = some (.dK (kN ks f)) ∧ ks.Nodup ∧ ks.length ≤ 1000 ∧
  H wa = some (.lst (iV wk)) ∧ H ca = some (.lst xs) ∧ Al (CutAt H) xs cs ∧ ∀ H', But p H H' → FsAt CF H' p b ks f wk cs → Q .non H'
abbrev nFI : List Str := ["self", "beat", "moves", "walk", "cuts", "gate"]
theorem scFI : FnScope nFI ["self", "beat", "moves", "walk", "cuts"] (defScope sFInit) := ⟨rfl, rfl, rfl, by decide +kernel, rfl, by decide +kernel, by decide +kernel⟩
theorem ok_fi {f : Addr} {fd : FuncData} (F : Fun K "__init__" "Fastest.__init__" sFInit f fd) (T : Txt K mg) (TF : TxtF K mg CF) : FnOk P w K mg base CX0 1 f fd ["self", "beat", "moves", "walk", "cuts"] (spFI CF) := by
  refine F.ok scFI (fun vs H Q E h => ?_) (fun cdv A outer s H vs Q E hr h => ?_)
  · obtain ⟨p, dx, b, m, wa, ca, ks, f, wk, xs, cs, rfl, _⟩ := h
    rfl
  obtain ⟨p, dx, b, m, wa, ca, ks, f, wk, xs, cs, rfl, hp, hm, hn, hl, hwa, hca, hx, k⟩ := h
  have nd := scFI.nd
  have hu := hu_of hr
  refine ⟨_, pss_cons (ps_fld (pv 0) (pv 1) rfl)
    (pss_cons (ps_fld (pv 0) (pe_lock (pe_dc (own := [("gate", 5)]) (g := gName 5) (by rfl) nd (pi_keys (pv 2)) (blkOk_by (N := nFI) (sc := defScope sFInit) (by decide +kernel))
          (fun _ _ _ _ _ => pg_name (i := 5) nd rfl (.inl rfl)) (fun _ _ _ _ _ => pts_nil) (fun _ _ _ _ _ => pv 5) (fun _ _ _ _ _ => pe_dget hu (pv 2) (pv 5) (fun _ _ => rfl)))) rfl)
    (pss_cons (ps_fld (pv 0) (pe_callTy call_list_of (by rfl) T.list (by decide +kernel) (pa_cons (pv 3) pa_nil)) rfl)
    (pss_one (ps_fld (pv 0) (pe_callTy call_list_of (by rfl) T.list (by decide +kernel) (pa_cons (pv 4) pa_nil)) rfl)))), ?_⟩
  refine ⟨_, rfl, _, rfl, p, CF, dx, [], rfl, hp, TF.cl, TF.nb, (by show 0 < 1000; decide), ?_⟩
  have nm : m ≠ p := fun z => by rw [z, hp] at hm; cases hm
  have nwa : wa ≠ p := fun z => by rw [z, hp] at hwa; cases hwa
  have nca : ca ≠ p := fun z => by rw [z, hp] at hca; cases hca
  have b1 : But p H (upd H p (.ins CF dx (putF "beat" (.int b) []))) := but_upd
  have hp1 : upd H p (.ins CF dx (putF "beat" (.int b) [])) p = some (.ins CF dx (putF "beat" (.int b) [])) := upd_same
  generalize upd H p (.ins CF dx (putF "beat" (.int b) [])) = H1 at b1 hp1 ⊢
  have hm1 := b1 _ _ nm hm
  refine ⟨m, _, hm1, True.intro, fun od => ?_⟩
  have hf : upd H1 m (.frz od (.dK (kN ks f))) m = some (.frz od (.dK (kN ks f))) := upd_same
  have hun : ∀ {H2 : Hp}, Same (upd H1 m (.frz od (.dK (kN ks f)))) H2 → Same H1 (upd H2 m (.dK (kN ks f))) := fun s2 => unlock hm1 s2
  have hfn : ∀ {l : Addr}, upd H1 m (.frz od (.dK (kN ks f))) l = none → H1 l = none := fun {l} e => by
    by_cases z : l = m
    · rw [z, upd_same] at e; cases e
    · rw [upd_ne z] at e; exact e
  generalize upd H1 m (.frz od (.dK (kN ks f))) = Hf at hf hun hfn ⊢
  refine ⟨_, rfl, m, od, rfl, .inl ⟨_, hf, fun c nc => dc_it (walk_keys (d := m) (o := od) (kvs := kN ks f)) (fun j G2 => Same Hf G2 ∧ G2 c = some (.dK (kN (ks.take j) f)))
    ⟨same_upd nc, upd_same⟩ (fun j G2 _ hh => hh.1 _ _ hf) ?_ ?_⟩⟩
  · rintro j y G2 G3 hj ⟨sG, gc⟩ ⟨rfl, ky, vy, hky, rfl⟩
    have hn' : ∃ n, ks[j]? = some n ∧ ky = Sum.inr n ∧ vy = .int (f n) := by
      unfold kN at hky
      rw [List.getElem?_map] at hky
      obtain ⟨n, hn, e⟩ := Option.map_eq_some_iff.mp hky
      cases e
      exact ⟨n, hn, rfl, rfl⟩
    obtain ⟨n, hn', rfl, rfl⟩ := hn'
    refine ⟨rfl, _, rfl, _, rfl, _, rfl, m, .int (f n), rfl, ?_, ?_⟩
    · rw [← kN_get (wf := f) (List.mem_of_getElem? hn')]
      exact .inl ⟨_, Sum.inr n, .inr ⟨od, sG _ _ hf⟩, rfl, rfl⟩
    refine ⟨_, Sum.inr n, rfl, gc, ?_, sG.mut nc, ?_⟩
    · rw [kN_len, List.length_take]; exact szl (by omega)
    · rw [upd_same, kN_new (nodup_take_not hn hn') rfl, take_succ_at hn']
  rintro G2 ⟨sG, gc⟩
  rw [kN_len, List.take_length] at gc
  have hcm : c ≠ m := fun z => by rw [z, hf] at nc; cases nc
  refine ⟨sG _ _ hf, ?_⟩
  have s2 := hun sG
  have gc2 : upd G2 m (.dK (kN ks f)) c = some (.dK (kN ks f)) := by rw [upd_ne hcm]; exact gc
  have ncp : c ≠ p := fun z => by
    have := hfn nc
    rw [z, hp1] at this; cases this
  generalize upd G2 m (.dK (kN ks f)) = H2 at s2 gc2 ⊢
  refine ⟨_, rfl, p, CF, dx, _, rfl, s2 _ _ hp1, TF.cl, TF.nm, (by show 1 < 1000; decide), ?_⟩
  have b3 : But p H (upd H2 p (.ins CF dx (putF "moves" (.ref c) (putF "beat" (.int b) [])))) := (b1.trans (s2.but p)).trans but_upd
  have gc3 : upd H2 p (.ins CF dx (putF "moves" (.ref c) (putF "beat" (.int b) []))) c = some (.dK (kN ks f)) := by rw [upd_ne ncp]; exact gc2
  have hp3 : upd H2 p (.ins CF dx (putF "moves" (.ref c) (putF "beat" (.int b) []))) p = some (.ins CF dx (putF "moves" (.ref c) (putF "beat" (.int b) []))) := upd_same
  generalize upd H2 p (.ins CF dx (putF "moves" (.ref c) (putF "beat" (.int b) []))) = H3 at b3 gc3 hp3 ⊢
  refine ⟨_, rfl, wa, _, rfl, .inl (SqL.of (b3 _ _ nwa hwa)), fun w2 nw2 => ?_⟩
  have s4 := same_upd (o := HO.lst (iV wk)) nw2
  have hw4 : upd H3 w2 (.lst (iV wk)) w2 = some (.lst (iV wk)) := upd_same
  have nw2p : w2 ≠ p := fun z => by rw [z, hp3] at nw2; cases nw2
  generalize upd H3 w2 (.lst (iV wk)) = H4 at s4 hw4 ⊢
  refine ⟨_, rfl, p, CF, dx, _, rfl, s4 _ _ hp3, TF.cl, TF.nw, (by show 2 < 1000; decide), ?_⟩
  have b5 : But p H (upd H4 p (.ins CF dx (putF "walk" (.ref w2) (putF "moves" (.ref c) (putF "beat" (.int b) []))))) := (b3.trans (s4.but p)).trans but_upd
  have gc5 : upd H4 p (.ins CF dx (putF "walk" (.ref w2) (putF "moves" (.ref c) (putF "beat" (.int b) [])))) c = some (.dK (kN ks f)) := by rw [upd_ne ncp]; exact s4 _ _ gc3
  have hw5 : upd H4 p (.ins CF dx (putF "walk" (.ref w2) (putF "moves" (.ref c) (putF "beat" (.int b) [])))) w2 = some (.lst (iV wk)) := by rw [upd_ne nw2p]; exact hw4
  have hp5 : upd H4 p (.ins CF dx (putF "walk" (.ref w2) (putF "moves" (.ref c) (putF "beat" (.int b) [])))) p = some (.ins CF dx (putF "walk" (.ref w2) (putF "moves" (.ref c) (putF "beat" (.int b) [])))) := upd_same
  generalize upd H4 p (.ins CF dx (putF "walk" (.ref w2) (putF "moves" (.ref c) (putF "beat" (.int b) [])))) = H5 at b5 gc5 hw5 hp5 ⊢
  refine ⟨_, rfl, ca, _, rfl, .inl (SqL.of (b5 _ _ nca hca)), fun c2 nc2 => ?_⟩
  have s6 := same_upd (o := HO.lst xs) nc2
  have hc6 : upd H5 c2 (.lst xs) c2 = some (.lst xs) := upd_same
  have nc2p : c2 ≠ p := fun z => by rw [z, hp5] at nc2; cases nc2
  generalize upd H5 c2 (.lst xs) = H6 at s6 hc6 ⊢
  refine ⟨_, rfl, p, CF, dx, _, rfl, s6 _ _ hp5, TF.cl, TF.nc, (by show 3 < 1000; decide), ?_⟩
  rw [ff_eq]
  have b7 : But p H (upd H6 p (.ins CF dx (ff b c w2 c2))) := (b5.trans (s6.but p)).trans but_upd
  refine k _ b7 ⟨dx, c, w2, c2, xs, upd_same, by rw [upd_ne ncp]; exact s6 _ _ gc5, by rw [upd_ne nw2p]; exact s6 _ _ hw5, by rw [upd_ne nc2p]; exact hc6, hx.mono fun x c h => ?_⟩
  cases c with
  | inl a => exact h
  | inr q =>
    obtain ⟨t, e, h1⟩ := h
    exact ⟨t, e, b7 _ _ (fun z => by rw [z, hp] at h1; cases h1) h1⟩
end
end PN
/-! The best beat: what is told of it, from two neighbours -/
namespace PN
section
variable {α : Type} [DecidableEq α] {keys : List α} {d : α → Int} {ws : List (α × α × Int)} {out : α} {mv f : α → Int} {Ent : α → α → Int → Int → Prop}
structure Best (keys : List α) (d : α → Int) (ws : List (α × α × Int)) (out : α) (b : Int) (f : α → Int) : Prop where
  good : Good ws d out f b
  dle : ∀ n ∈ keys, d n ≤ b
  least : ∀ mv m, Good ws d out mv m → (∀ n ∈ keys, d n ≤ m) → b ≤ m
theorem least_good (P : Paths ws d out Ent) {b0 b : Int} {ls r : List (LM α)} {g : α} (L : LmsOk ws d out Ent b0 ls) (hr : RingAt ls g r) (hn : ∀ u z h D, Ent u z h D → b0 < D → b ≤ D) {m : Int} (hg : Good ws d out mv m) : b ≤ m := by
  refine Classical.byContradiction fun hno => hr.no (L.keeps (show Good ws d out mv b0 from ?_))
  by_cases c : m ≤ b0
  · exact hg.mono c
  refine ⟨hg.1, fun u p z h D w hlt => ?_⟩
  have h0 := w.rg hg.1
  refine Classical.byContradiction fun hno2 => ?_
  obtain ⟨h', D', hE, hb⟩ := P.full _ _ _ _ _ w
  obtain ⟨p', w'⟩ := P.sound _ _ _ _ hE
  have h1 := w'.rg hg.1
  have hh : h' = h := by unfold bt at hb; omega
  have hD : D ≤ D' := by unfold bt at hb; omega
  have := hn _ _ _ _ hE (by omega)
  have := hg.2 _ _ _ _ _ w' (by omega)
  omega
theorem best_low (P : Paths ws d out Ent) {b : Int} {ls : List (LM α)} (L : LmsOk ws d out Ent b ls) (hk : Keeps ls f) (hd : ∀ n ∈ keys, d n ≤ b) (h1 : ∃ n ∈ keys, d n = b) : Best keys d ws out b f :=
  ⟨L.good P hk, hd, fun mv m _ hm => by obtain ⟨n, hn, e⟩ := h1; have := hm n hn; omega⟩
theorem best_high (P : Paths ws d out Ent) {b0 b : Int} {ls ls0 r : List (LM α)} {g : α} (L : LmsOk ws d out Ent b ls) (hk : Keeps ls f) (hd : ∀ n ∈ keys, d n ≤ b) (L0 : LmsOk ws d out Ent b0 ls0) (hr : RingAt ls0 g r)
    (hn : ∀ u z h D, Ent u z h D → b0 < D → b ≤ D) : Best keys d ws out b f := ⟨L.good P hk, hd, fun mv m hm _ => least_good P L0 hr hn hm⟩
theorem good_shift {c b : Int} (h : Good ws d out mv b) : Good ws d out (fun x => mv x - c) b := by
  refine ⟨fun q hq => ?_, fun u p z hh D w hlt => ?_⟩
  · have := h.1 q hq
    unfold rg at *
    dsimp only
    omega
  · have := h.2 u p z hh D w hlt
    dsimp only
    omega
theorem Best.shift {b c : Int} (h : Best keys d ws out b f) : Best keys d ws out b (fun x => f x - c) := ⟨good_shift h.good, h.dle, h.least⟩
/-- what a plan's beat is under the best moves -/
theorem Best.beat (R : Rt keys d ws out) {b : Int} (h : Best keys d ws out b f) {r : Option Int} (hb : BeatIs keys d ws out f r) : r = some b := by
  obtain ⟨m, rfl, hm⟩ := beat_of_good R h.good h.dle hb
  have := h.least _ _ (good_of_beat R hb) (beat_low hb)
  congr 1
  omega
theorem Best.le (R : Rt keys d ws out) {b m : Int} (h : Best keys d ws out b f) (hb : BeatIs keys d ws out mv (some m)) : b ≤ m := h.least _ _ (good_of_beat R hb) (beat_low hb)
/-- a ring of limits, kept ones at least as long as b -/
structure RingEv (ws : List (α × α × Int)) (d : α → Int) (out : α) (b : Int) (rs : List (LM α)) : Prop where
  wire : ∀ l ∈ rs, l.k = false → ∃ (i : Nat) (q : α × α × Int), l.p = [i] ∧ ws[i]? = some q ∧ l.b = q.1 ∧ l.z = q.2.1 ∧ l.h = q.2.2
  walk : ∀ l ∈ rs, l.k = true → Wk ws d (fun x => x ≠ out) l.b l.p l.z l.h l.D ∧ b ≤ l.D
  chain : Chain rs
  ends : ∃ l e, rs.head? = some l ∧ rs.getLast? = some e ∧ e.z = l.b
  neg : mostSum rs < 0
theorem ring_ev {b0 b : Int} {ls r : List (LM α)} {g : α} (L0 : LmsOk ws d out Ent b0 ls) (hr : RingAt ls g r) (hn : ∀ u z h D, Ent u z h D → b0 < D → b ≤ D) : RingEv ws d out b r := by
  obtain ⟨l, h1, e1⟩ := hr.first
  obtain ⟨e, h2, e2⟩ := hr.last
  exact ⟨fun l hl hk => L0.wire l (hr.mem l hl) hk, fun l hl hk => by
    obtain ⟨w, hE, hlt⟩ := L0.walk l (hr.mem l hl) hk
    exact ⟨w, hn _ _ _ _ hE hlt⟩, hr.chain, ⟨l, e, h1, h2, by rw [e1, e2]⟩, hr.neg⟩
theorem pw_next {B : List Int} (hp : B.Pairwise (· < ·)) {i : Nat} {x y k : Int} (hi : B[i]? = some x) (hj : B[i + 1]? = some y) (hk : k ∈ B) (h : x < k) : y ≤ k := by
  obtain ⟨n, hn, rfl⟩ := List.mem_iff_getElem.mp hk
  obtain ⟨h1, e1⟩ := List.getElem?_eq_some_iff.mp hi
  obtain ⟨h2, e2⟩ := List.getElem?_eq_some_iff.mp hj
  rw [List.pairwise_iff_getElem] at hp
  by_cases c : n ≤ i
  · by_cases c2 : n = i
    · subst c2; omega
    · have := hp n i hn h1 (by omega); omega
  · by_cases c2 : n = i + 1
    · subst c2; omega
    · have := hp (i + 1) n h2 hn (by omega); omega
end
end PN
namespace PN
open PySem PySem.Spec PyProof.Rows L2 LayT
section
variable {P : Program} {w : World} {K : PySem.W.Frag} {mg : Str → Option Value} {base : Heap} {C CP CL CF CB CN : Addr}
/-! ### need_plan of a plan -/
def spNeed0 (C : Addr) : Sp := fun vs H Q _ => ∃ p dx fs, vs = [.ref p] ∧ H p = some (.ins C dx fs) ∧ Q .non H
theorem ok_need0 {f : Addr} {fd : FuncData} (F : Fun K "need_plan" "need_plan" sNeed f fd) (T : Txt K mg) (TP : TxtP K mg C) (IC : InsN K C) : FnOk P w K mg base CX0 1 f fd ["plan"] (spNeed0 C) := by
  refine F.ok scNeed (fun vs H Q E h => ?_) (fun cdv A outer s H vs Q E hr h => ?_)
  · obtain ⟨p, dx, fs, rfl, _⟩ := h
    rfl
  · obtain ⟨p, dx, fs, rfl, hp, k⟩ := h
    refine ⟨_, pss_one (ps_if (pt_not (pt_val (pe_callB call_isi (by rfl) T.isinst (by decide +kernel) (pa_cons (pv 0) (pa_cons (pgl (v := .ref C) ⟨_, TP.g, rfl⟩) pa_nil))))) pss_never pss_nil), ?_⟩
    exact ⟨_, rfl, .ref p, .ref C, .ref C, .ref C, true, rfl, .own C, .base (.ins hp IC.i.cl IC.i.ha IC.i.hn IC.i.htk IC.i.hm), IC.i.me, _, rfl, iteF k⟩
/-! ### fastest -/
abbrev BestT (t : PL) (b : Int) (f : Str → Int) : Prop := Best t.ks t.d t.ws out b f
def Ev (t : PL) (b : Int) (wk : List Nat) (cs : List Cut1) : Prop := (wk = [] ∧ ∃ n ∈ t.ks, t.d n = b ∧ cs = [.inl n]) ∨ ∃ rs : List (LM Str), RingEv t.ws t.d out b rs ∧ (∀ r ∈ rs, r.p.length ≤ 16384) ∧ rs.length ≤ 30 ∧ wk = walkOf rs ∧ cs = cutsOf 0 rs
def spFastest (C CF : Addr) : Sp := fun vs H Q _ => ∃ (p : Addr) (t : PL) (rank : Str → Nat), vs = [.ref p] ∧ PlAt C H p t ∧ OkPl t ∧ t.ks.length ≤ 14 ∧ OkR t rank ∧
  ∀ r H' b f wk cs, Same H H' → FsAt CF H' r b t.ks f wk cs → BestT t b f → f out = 0 → Ev t b wk cs → Q (.ref r) H'
abbrev nFastest : List Str := ["plan", "paths", "longest", "delays", "beats", "low", "high", "middle", "_", "ring", "moves", "walk", "cuts", "ends", "delay", "gate"]
theorem scFastest : FnScope nFastest ["plan"] (defScope sFastest) := ⟨rfl, rfl, rfl, by decide +kernel, rfl, by decide +kernel, by decide +kernel⟩
structure TxtQ (mg : Str → Option Value) : Prop where
  set : mg "set" = none
theorem cut_one {x : V} {zs : List V} : cutV (x :: zs) none (some 1) = [x] := by
  unfold cutV
  rw [show (1 : Int) = ((1 : Nat) : Int) from rfl, HT.sIx_nat, HT.sIx_none, Nat.min_eq_left (by simp only [List.length_cons]; omega)]
  rfl
theorem same_mk {Ck : Addr} {G : Hp} {x dy : Addr} (nx : G x = none) (ny : G dy = none) : Same G (upd (upd G dy (.own x)) x (.ins Ck dy [])) := fun b o e => by
  rw [upd_ne (ne_of_none e nx), upd_ne (ne_of_none e ny)]; exact e
theorem ok_fastest {fE fL fP fM fS fW fI f : Addr} {fdE fdL fdP fdM fdS fdW fdI fd : FuncData} (F : Fun K "fastest" "fastest" sFastest f fd) (T : Txt K mg) (TQ : TxtQ mg) (TP : TxtP K mg C) (TA : TxtPa K mg CP) (DE : Dfn P w K mg base "need_plan" 1 ["plan"] (spNeed0 C) fE fdE)
    (DL : Dfn P w K mg base "limits_of" 3 ["plan", "paths", "beat"] (spLims C CP CL) fL fdL) (DP : Dfn P w K mg base "paths_of" 3 ["plan"] (spPaths C CP) fP fdP) (DM : Dfn P w K mg base "moves_within" 1 ["gates", "limits"] (spWithin CP CL) fM fdM) (DS : Dfn P w K mg base "stood" 1 ["moves"] spStood fS fdS)
    (DW : Dfn P w K mg base "walk_of" 1 ["ring"] (spWalkOf CP CL) fW fdW) (MF : MkC P w K mg base CF "Fastest" ["self", "beat", "moves", "walk", "cuts"] 1 (spFI CF) fI fdI) : FnOk P w K mg base CX0 4 f fd ["plan"] (spFastest C CF) := by
  refine F.ok scFastest (fun vs H Q E h => ?_) (fun cdv A outer s H vs Q E hr h => ?_)
  · obtain ⟨p, t, rank, rfl, _⟩ := h
    rfl
  obtain ⟨p, t, rank, rfl, hp, okp, hk14, okr, k⟩ := h
  have nd := scFastest.nd
  have hu := hu_of hr
  have hr1 : Room 1 _ := hr.mono (by decide)
  have hr2 : Room 2 _ := hr.mono (by decide)
  have rt := okr.rt okp
  refine ⟨_, pss_cons (ps_expr (pcl DE hr1 (pa_cons (pv 0) pa_nil)))
    (pss_cons (ps_set (i := 1) nd rfl (.inr rfl) (pcl DP hr (pa_cons (pv 0) pa_nil)))
    (pss_cons (ps_set (i := 2) nd rfl (.inr rfl) (pe_callB (cr_max rfl) (by rfl) T.max (by decide +kernel) (pa_cons (pe_listVals (by rfl) (pe_fld (pv 0) rfl) (by rfl) T.list (by decide +kernel)) pa_nil)))
    (Evl.pss_cut (ps_lock (ps_setLc (i := 3) (own := [("ends", 13)]) (g := gName 13) (by rfl) nd rfl rfl (sw_true rfl rfl rfl (by decide +kernel)) (pi_keys (pv 1)) (blkOk_by (N := nFastest) (sc := defScope sFastest) (by decide +kernel))
        (fun _ _ _ _ _ => pg_name (i := 13) nd rfl (.inl rfl)) (fun _ _ _ _ _ => pts_nil) (fun _ _ _ _ _ => pfd K (pe_dget hu (pv 1) (pv 13) (fun _ _ => rfl)))))
    (Evl.pss_cut (ps_set (i := 4) nd rfl (.inl rfl) (pe_callB (cr_sortedSetI rfl) (by rfl) T.sorted (by decide +kernel) (pa_cons (pe_callTy (cr_setI rfl) (by rfl) TQ.set (by decide +kernel) (pa_cons
        (pe_op op_cat (plst (pa_cons (pv 2) pa_nil)) (pe_lc (own := [("delay", 14)]) (g := gName 14) (by rfl) nd (pi_list (pv 3)) (blkOk_by (N := nFastest) (sc := defScope sFastest) (by decide +kernel))
          (fun _ _ _ _ _ => pg_name (i := 14) nd rfl (.inl rfl)) (fun _ _ _ _ _ => pts_one (pt_cmpR op_gt (pv 14) (pv 2) (nomark _))) (fun _ _ _ _ _ => pv 14))) pa_nil)) pa_nil)))
    (pss_cons (ps_par (i := 5) (j := 6) (by rfl) nd rfl rfl (by decide) rfl rfl (pa_cons pe_int (pa_cons (pe_op op_sub (pe_callB call_len_seq (by rfl) T.len PySem.boot_len (pa_cons (pv 4) pa_nil)) pe_int) pa_nil)) (by rfl))
    (Evl.pss_cut (ps_while PassesOwn.never (pt_cmpR op_lt (pv 5) (pv 6) (nomark _))
      (pss_cons (ps_set (i := 7) nd rfl (.inl rfl) (pe_op op_fdiv (pe_op op_add (pv 5) (pv 6)) pe_int))
      (pss_cons (ps_asg (pcl DM hr1 (pa_cons (pe_fld (pv 0) rfl) (pa_cons (pcl DL hr (pa_cons (pv 0) (pa_cons (pv 1) (pa_cons (pe_ix (ixL K) (pv 4) (pv 7) (fun _ _ => rfl)) pa_nil)))) pa_nil))) (pg_tup (by rfl) (pgs_cons (pg_name (i := 8) nd rfl (.inl rfl)) (pgs_cons (pg_name (i := 9) nd rfl (.inl rfl)) pgs_nil))))
      (pss_one (ps_if (pt_truth (pv 9) (by intro _; rfl)) (pss_one (ps_set (i := 5) nd rfl (.inl rfl) (pe_op op_add (pv 7) pe_int))) (pss_one (ps_set (i := 6) nd rfl (.inl rfl) (pv 7))))))))
    (pss_cons (ps_asg (pcl DM hr1 (pa_cons (pe_fld (pv 0) rfl) (pa_cons (pcl DL hr (pa_cons (pv 0) (pa_cons (pv 1) (pa_cons (pe_ix (ixL K) (pv 4) (pv 5) (fun _ _ => rfl)) pa_nil)))) pa_nil))) (pg_tup (by rfl) (pgs_cons (pg_name (i := 10) nd rfl (.inl rfl)) (pgs_cons (pg_name (i := 8) nd rfl (.inl rfl)) pgs_nil))))
    (pss_cons (ps_if (pt_cmpR op_eq (pv 5) pe_int (nomark _)) (pss_one (ps_ret (pe_make MF.M MF.ok hr2 (by rfl) MF.g MF.b .nil pass0 (pa_cons (pv 2) (pa_cons (pcl DS hr1 (pa_cons (pv 10) pa_nil)) (pa_cons (plst pa_nil) (pa_cons
        (pe_slice sl_list (pe_lock (pe_lc (own := [("gate", 15)]) (g := gName 15) (by rfl) nd (pi_keys (pe_fld (pv 0) rfl)) (blkOk_by (N := nFastest) (sc := defScope sFastest) (by decide +kernel))
          (fun _ _ _ _ _ => pg_name (i := 15) nd rfl (.inl rfl)) (fun _ _ _ _ _ => pts_one (pt_cmpR op_eq (pe_dget hu (pfd K (pv 0)) (pv 15) (fun _ _ => rfl)) (pv 2) (nomark _))) (fun _ _ _ _ _ => pv 15))) po_none (po_some pe_int)) pa_nil))))))) pss_nil)
    (pss_cons (ps_asg (pcl DM hr1 (pa_cons (pe_fld (pv 0) rfl) (pa_cons (pcl DL hr (pa_cons (pv 0) (pa_cons (pv 1) (pa_cons (pe_ix (ixL K) (pv 4) (pe_op op_sub (pv 5) pe_int) (fun _ _ => rfl)) pa_nil)))) pa_nil))) (pg_tup (by rfl) (pgs_cons (pg_name (i := 8) nd rfl (.inl rfl)) (pgs_cons (pg_name (i := 9) nd rfl (.inl rfl)) pgs_nil))))
    (pss_cons (ps_asg (pcl DW hr1 (pa_cons (pv 9) pa_nil)) (pg_tup (by rfl) (pgs_cons (pg_name (i := 11) nd rfl (.inl rfl)) (pgs_cons (pg_name (i := 12) nd rfl (.inl rfl)) pgs_nil))))
    (pss_one (ps_ret (pe_make MF.M MF.ok hr2 (by rfl) MF.g MF.b .nil pass0 (pa_cons (pe_ix (ixL K) (pv 4) (pv 5) (fun _ _ => rfl)) (pa_cons (pcl DS hr1 (pa_cons (pv 10) pa_nil)) (pa_cons (pv 11) (pa_cons (pv 12) pa_nil))))))))))))))))), ?_⟩
  obtain ⟨dx, da, wa0, xs, h1, h2, h3, h4⟩ := id hp
  refine ⟨_, rfl, p, dx, _, rfl, h1, ?_⟩
  refine ⟨_, rfl, p, t, rank, rfl, hp, okp, hk14, okr, fun F0 G1 kvs s1 g1 hF hC => ?_⟩
  obtain ⟨es, hes, oes⟩ := fd_es okp hk14 hF hC
  have hel := oes.len
  refine ⟨_, rfl, p, C, dx, _, _, rfl, s1 _ _ h1, TP.cl, TP.nD, fld_d, da, _, rfl, s1 _ _ h2, fun pl npl => ?_⟩
  rw [kN_vals]
  have s2 := same_upd (o := HO.lst ((t.ks.map t.d).map V.int)) npl
  refine ⟨pl, t.ks.map t.d, rfl, SqL.of upd_same, ?_, fun L hLm hLle => ?_⟩
  · rw [List.length_map]; exact List.length_pos_of_mem okp.out
  have hL1 : ∃ n ∈ t.ks, t.d n = L := by
    obtain ⟨n, hn, e⟩ := List.mem_map.mp hLm
    exact ⟨n, hn, e⟩
  have hLd : ∀ n ∈ t.ks, t.d n ≤ L := fun n hn => hLle _ (List.mem_map.mpr ⟨n, hn, rfl⟩)
  have s02 := s1.trans s2
  have g2 := s2 _ _ g1
  have hes2 := hes.same s2
  generalize upd G1 pl (.lst ((t.ks.map t.d).map V.int)) = G2 at s02 g2 hes2 ⊢
  -- delays
  refine ⟨fun σ' G => ∃ dl, σ' = [some (.ref p), some (.ref F0), some (.int L), some (.ref dl), none, none, none, none, none, none, none, none, none, none, none, none] ∧ Same G2 G ∧ G dl = some (.lst (es.map fun e => V.int e.D)), ?_, ?_⟩
  · refine ⟨F0, _, g2, True.intro, fun od => ?_⟩
    have hf : upd G2 F0 (.frz od (.dT kvs)) F0 = some (.frz od (.dT kvs)) := upd_same
    have hun : ∀ {H2 : Hp}, Same (upd G2 F0 (.frz od (.dT kvs))) H2 → Same G2 (upd H2 F0 (.dT kvs)) := fun s2 => unlock g2 s2
    have hesf : PsAt CP (upd G2 F0 (.frz od (.dT kvs))) kvs es := ⟨hes2.len, hes2.nd, fun i kv e a b => by
      obtain ⟨pa, e1, ⟨dy, pp, ys, q1, q2, q3⟩⟩ := hes2.at_ i kv e a b
      exact ⟨pa, e1, dy, pp, ys, by rw [upd_ne (fun z => by rw [z, g2] at q1; cases q1)]; exact q1, by rw [upd_ne (fun z => by rw [z, g2] at q2; cases q2)]; exact q2, q3⟩⟩
    generalize upd G2 F0 (.frz od (.dT kvs)) = Hf at hf hun hesf ⊢
    refine ⟨_, rfl, F0, od, rfl, .inr ⟨kvs, hf, fun c nc => lc_it (walk_keysT (d := F0) (o := od) (kvs := kvs)) (fun j G => Same Hf G ∧ G c = some (.lst ((es.take j).map fun e => V.int e.D)))
      ⟨same_upd nc, upd_same⟩ (fun j G _ hh => hh.1 _ _ hf) ?_ ?_⟩⟩
    · rintro j y GX GY hj ⟨sG, gc⟩ ⟨rfl, ky, vy, q, hky, rfl, hq⟩
      have hjl : j < es.length := by rw [← hes.len]; exact hj
      have hje := List.getElem?_eq_getElem hjl
      obtain ⟨pa, e, hpa⟩ := hesf.at_ j _ _ hky hje
      rw [Prod.mk.injEq] at e
      obtain ⟨rfl, rfl⟩ := e
      obtain ⟨dy, pp, yp, e1, e2, e3⟩ := id hpa
      have hkn : valV kvs (kT es[j].b es[j].z) = some (.ref pa) := by
        have : ∀ (l : List (List Key × V)), (l.map (·.1)).Nodup → ∀ (i : Nat) k v, l[i]? = some (k, v) → valV l k = some v := by
          intro l
          induction l with
          | nil => intro _ i k v h; simp at h
          | cons a l ih =>
            intro hn i k v h
            rw [List.map_cons, List.nodup_cons] at hn
            cases i with
            | zero => simp at h; rw [h]; exact valV_pos rfl
            | succ i =>
              have h' : l[i]? = some (k, v) := by simpa using h
              rw [valV_neg (fun e => hn.1 (by rw [e]; exact List.mem_map.mpr ⟨_, List.mem_of_getElem? h', rfl⟩))]
              exact ih hn.2 i k v h'
        exact this kvs hes.nd j _ _ hky
      have dg : DGet GY F0 (.ref q) (some (.ref pa)) := by
        rw [← hkn]
        exact .inr ⟨kvs, _, q, .inr ⟨od, sG _ _ hf⟩, rfl, hq, rfl⟩
      refine ⟨rfl, _, rfl, _, rfl, F0, _, rfl, dg, pa, CP, dy, _, _, rfl, sG _ _ e1, TA.cl, TA.nD, pf_D, ?_⟩
      refine ⟨_, gc, ?_, sG.mut nc, ?_⟩
      · rw [List.length_map, List.length_take]; exact szl (by omega)
      · rw [upd_same, map_take_succ hje]
    · rintro G ⟨sG, gc⟩
      rw [hes.len, List.take_length] at gc
      have hcm : c ≠ F0 := fun z => by rw [z, hf] at nc; cases nc
      exact ⟨sG _ _ hf, c, rfl, hun sG, by rw [upd_ne hcm]; exact gc⟩
  rintro σ' G3 ⟨dl, rfl, s3, gdl⟩
  have s03 := s02.trans s3
  have g3 := s3 _ _ g2
  have hes3 := hes2.same s3
  -- beats
  refine ⟨fun σ' G => ∃ bl B, σ' = [some (.ref p), some (.ref F0), some (.int L), some (.ref dl), some (.ref bl), none, none, none, none, none, none, none, none, none, none, none] ∧ Same G3 G ∧ G bl = some (.lst (List.map V.int B)) ∧ B.Pairwise (· < ·) ∧ ∀ x, x ∈ B ↔ x = L ∨ ∃ e ∈ es, e.D = x ∧ L < x, ?_, ?_⟩
  · refine ⟨_, rfl, rd_l1 fun l1 G4 nl1 s4 hl1 => ?_⟩
    have gdl4 := s4 _ _ gdl
    refine ⟨_, rfl, dl, rfl, ⟨_, SqL.of gdl4⟩, fun c nc => lc_it (walk_list (K := K) (a := dl) (xs := es.map fun e => V.int e.D)) (fun j G => Same G4 G ∧ G c = some (.lst (((es.take j).filter fun e => decide (L < e.D)).map fun e => V.int e.D)))
      ⟨same_upd nc, upd_same⟩ (fun j G _ hh => SqL.of (hh.1 _ _ gdl4)) ?_ ?_⟩
    · rintro j y GX GY hj ⟨sG, gc⟩ ⟨eG, hy⟩
      obtain rfl : GX = GY := eG.symm
      obtain ⟨e, he, rfl⟩ := map_at hy
      refine ⟨rfl, _, rfl, _, rfl, _, _, rfl, rfl, _, rfl, ?_⟩
      by_cases c1 : L < e.D
      · rw [decide_eq_true c1]
        refine iteT ⟨_, rfl, _, gc, ?_, sG.mut nc, ?_⟩
        · rw [List.length_map]
          have := List.length_filter_le (fun e : LM Str => decide (L < e.D)) (es.take j)
          rw [List.length_take] at this
          exact szl (by omega)
        · rw [upd_same, take_succ_at he, List.filter_append, List.filter_cons_of_pos (by rw [decide_eq_true_eq]; exact c1), List.filter_nil, List.map_append]; rfl
      · rw [decide_eq_false c1]
        refine iteF ⟨sG, ?_⟩
        rw [take_succ_at he, List.filter_append, List.filter_cons_of_neg (by rw [decide_eq_true_eq]; exact c1), List.filter_nil, List.append_nil]
        exact gc
    · rintro G5 ⟨s5, gc⟩
      rw [List.length_map, List.take_length] at gc
      have hfl := List.length_filter_le (fun e : LM Str => decide (L < e.D)) es
      refine ⟨_, _, _, _, rfl, rfl, s5 _ _ hl1, gc, ?_, fun cl ncl => ?_⟩
      · simp only [List.length_cons, List.length_nil, List.length_map]
        exact sz (by omega)
      have s6 := same_upd (o := HO.lst ([V.int L] ++ ((es.filter fun e => decide (L < e.D)).map fun e => V.int e.D))) ncl
      have h6 : upd G5 cl (.lst ([V.int L] ++ ((es.filter fun e => decide (L < e.D)).map fun e => V.int e.D))) cl = some (.lst ((L :: (es.filter fun e => decide (L < e.D)).map LM.D).map V.int)) := by
        rw [upd_same, List.map_cons, List.map_map]; rfl
      generalize upd G5 cl (.lst ([V.int L] ++ ((es.filter fun e => decide (L < e.D)).map fun e => V.int e.D))) = G6 at s6 h6 ⊢
      refine ⟨cl, _, rfl, SqL.of h6, by rw [List.length_cons, List.length_map]; omega, fun sa cn nsa hcn => ?_⟩
      have s7 := same_upd (o := SetO w sa (fun j => decide (j ∈ L :: (es.filter fun e => decide (L < e.D)).map LM.D)) cn) nsa
      refine ⟨sa, _, cn, rfl, upd_same, hcn, fun ns pb hpw hmem hlen npb => ?_⟩
      refine ⟨pb, ns, rfl, (((s4.trans s5).trans s6).trans s7).trans (same_upd npb), upd_same, hpw, fun x => ?_⟩
      rw [hmem x, decide_eq_true_eq, List.mem_cons, List.mem_map]
      constructor
      · rintro (e | ⟨e, he, rfl⟩)
        · exact .inl e
        · obtain ⟨a, b⟩ := List.mem_filter.mp he
          exact .inr ⟨e, a, rfl, of_decide_eq_true b⟩
      · rintro (e | ⟨e, he, rfl, hlt⟩)
        · exact .inl e
        · exact .inr ⟨e, List.mem_filter.mpr ⟨he, decide_eq_true hlt⟩, rfl⟩
  rintro σ' G4 ⟨bl, B, rfl, s4, gbl, hBp, hBm⟩
  have s04 := s03.trans s4
  have g4 := s4 _ _ g3
  have hes4 := hes3.same s4
  have hB0 : 0 < B.length := List.length_pos_of_mem ((hBm L).mpr (.inl rfl))
  have hBL : ∀ x ∈ B, L ≤ x := fun x hx => by
    rcases (hBm x).mp hx with e | ⟨_, _, _, e⟩ <;> omega
  have hBat : ∀ i, i < B.length → ∃ x, B[i]? = some x ∧ x ∈ B := fun i hi => ⟨B[i], List.getElem?_eq_getElem hi, List.getElem_mem hi⟩
  have hp4 := hp.same s04
  have hkeys := fun m => lim_keys okp oes m
  have hlml := fun m => lim_len okp oes m
  have hdG : ∀ {G : Hp}, Same G4 G → G da = some (.dK (kN t.ks t.d)) := fun {G} sG => sG _ _ (s04 _ _ h2)
  -- the search
  refine ⟨_, rfl, bl, _, rfl, .inl (SqL.of gbl), _, _, rfl, rfl, _, _, rfl, ?_⟩
  have e1 : (((List.map V.int B).length : Nat) : Int) - 1 = (((B.length - 1 : Nat)) : Int) := by rw [List.length_map]; omega
  refine ⟨fun σ' G => ∃ (lo : Nat) (b : Int) (o7 o8 o9 : Option V) (f0 : Str → Int), σ' = [some (.ref p), some (.ref F0), some (.int L), some (.ref dl), some (.ref bl), some (.int ((lo : Nat) : Int)), some (.int ((lo : Nat) : Int)), o7, o8, o9, none, none, none, none, none, none] ∧ Same G4 G ∧ B[lo]? = some b ∧ Keeps (limL t.ws es b) f0 ∧
      (lo = 0 ∨ ∃ (b0 : Int) (g : Str) (rs : List (LM Str)), B[lo - 1]? = some b0 ∧ RingAt (limL t.ws es b0) g rs), ?_, ?_⟩
  · refine ⟨fun m σ' G => ∃ (lo hi : Nat) (o7 o8 o9 : Option V), σ' = [some (.ref p), some (.ref F0), some (.int L), some (.ref dl), some (.ref bl), some (.int ((lo : Nat) : Int)), some (.int ((hi : Nat) : Int)), o7, o8, o9, none, none, none, none, none, none] ∧ Same G4 G ∧ lo ≤ hi ∧ hi < B.length ∧
        (∃ (bh : Int) (f0 : Str → Int), B[hi]? = some bh ∧ Keeps (limL t.ws es bh) f0) ∧ (lo = 0 ∨ ∃ (b0 : Int) (g : Str) (rs : List (LM Str)), B[lo - 1]? = some b0 ∧ RingAt (limL t.ws es b0) g rs) ∧ m = hi - lo,
      ⟨_, 0, B.length - 1, none, none, none, by rw [← e1]; rfl, Same.refl G4, Nat.zero_le _, by omega, ?_, .inl rfl, rfl⟩, ?_⟩
    · obtain ⟨bh, hbh, hbm⟩ := hBat (B.length - 1) (by omega)
      refine ⟨bh, fun _ => 0, hbh, fun l hl => ?_⟩
      rcases List.mem_append.mp hl with hl | hl
      · obtain ⟨j, q, hq, rfl⟩ := wl_mem hl
        have := okr.hpos q (List.mem_of_getElem? hq)
        unfold LM.most
        simp; omega
      · exfalso
        obtain ⟨he, hlt⟩ := List.mem_filter.mp hl
        have hlt := of_decide_eq_true hlt
        have hm : l.D ∈ B := (hBm _).mpr (.inr ⟨l, he, rfl, by have := hBL bh hbm; omega⟩)
        obtain ⟨n, hn, en⟩ := List.mem_iff_getElem.mp hm
        obtain ⟨h1', e1'⟩ := List.getElem?_eq_some_iff.mp hbh
        rw [List.pairwise_iff_getElem] at hBp
        by_cases c : n = B.length - 1
        · subst c; omega
        · have := hBp n (B.length - 1) hn h1' (by omega)
          omega
    rintro m σ' G ⟨lo, hi, o7, o8, o9, rfl, sG, hlh, hhB, hKh, hRl, rfl⟩
    refine ⟨_, rfl, _, rfl, _, _, rfl, rfl, _, rfl, ?_⟩
    by_cases c : lo < hi
    case neg =>
      obtain rfl : lo = hi := by omega
      rw [decide_eq_false (show ¬ ((lo : Int) < (lo : Int)) by omega)]
      obtain ⟨bh, f0, hb, hK⟩ := hKh
      exact iteF ⟨lo, bh, o7, o8, o9, f0, rfl, sG, hb, hK, hRl⟩
    rw [decide_eq_true (show ((lo : Int) < (hi : Int)) by omega)]
    refine iteT ?_
    have emid : ((lo : Int) + (hi : Int)) / 2 = (((lo + hi) / 2 : Nat) : Int) := by omega
    obtain ⟨bm, hbm, _⟩ := hBat ((lo + hi) / 2) (by omega)
    refine ⟨fun σ' G => ∃ (lo2 hi2 : Nat) (o7 o8 o9 : Option V), σ' = [some (.ref p), some (.ref F0), some (.int L), some (.ref dl), some (.ref bl), some (.int ((lo2 : Nat) : Int)), some (.int ((hi2 : Nat) : Int)), o7, o8, o9, none, none, none, none, none, none] ∧ Same G4 G ∧ lo2 ≤ hi2 ∧ hi2 < B.length ∧
        (∃ (bh : Int) (f0 : Str → Int), B[hi2]? = some bh ∧ Keeps (limL t.ws es bh) f0) ∧ (lo2 = 0 ∨ ∃ (b0 : Int) (g : Str) (rs : List (LM Str)), B[lo2 - 1]? = some b0 ∧ RingAt (limL t.ws es b0) g rs) ∧ hi2 - lo2 < hi - lo, fun σ' G' ⟨a1, a2, a3, a4, a5, q1, q2, q3, q4, q5, q6, q7⟩ => ⟨a2 - a1, q7, a1, a2, a3, a4, a5, q1, q2, q3, q4, q5, q6, rfl⟩, ?_⟩
    refine ⟨_, rfl, _, rfl, _, _, rfl, rfl, _, _, rfl, rfl, ⟨by decide, by decide⟩, ?_⟩
    refine ⟨_, rfl, p, C, dx, _, _, rfl, sG _ _ (s04 _ _ h1), TP.cl, TP.nD, fld_d, ?_⟩
    refine ⟨_, rfl, _, rfl, _, rfl, _, rfl, bl, _, _, _, rfl, rfl, SqL.of (sG _ _ gbl), atI_mid (v := .int bm) emid (by rw [List.getElem?_map, hbm]; rfl), ?_⟩
    refine ⟨p, F0, t, bm, kvs, es, rfl, hp4.same sG, okp, sG _ _ g4, hes4.same sG, hel, fun e he => (oes.row e he).1, fun rl Hl yl sl hrl hal => ?_⟩
    refine ⟨da, rl, t.ks, t.d, yl, _, rfl, hdG (sG.trans sl), okp.nd, okp.kl, hrl, hal, by have := hlml bm; omega, hkeys bm, ?_, ?_⟩
    · intro r mv rg G' f a1' a2 a3 a4 a5
      have a1 := sl.trans a1'
      refine ⟨r, _, rfl, SqT.of a2, rfl, _, _, rfl, _, _, rfl, rfl, ?_⟩
      refine ⟨_, rfl, false, .inl ⟨_, SqL.of a4, rfl⟩, iteF ?_⟩
      refine ⟨_, rfl, lo, (lo + hi) / 2, some (.int (((lo : Int) + (hi : Int)) / 2)), _, _, by rw [← emid]; rfl, sG.trans a1, by omega, by omega, ⟨bm, f, hbm, a5⟩, hRl, by omega⟩
    · intro r mv rg G' f ys rs g0 a1' a2 a3 a4 a5 a6 a7
      have a1 := sl.trans a1'
      refine ⟨r, _, rfl, SqT.of a2, rfl, _, _, rfl, _, _, rfl, rfl, ?_⟩
      have hne : ys.isEmpty = false := by
        obtain ⟨l, hl, _⟩ := a6.first
        have := a5.1
        cases ys with
        | nil => cases rs with
          | nil => cases hl
          | cons a b => simp at this
        | cons a b => rfl
      refine ⟨_, rfl, true, .inl ⟨_, SqL.of a4, by rw [hne]; rfl⟩, iteT ?_⟩
      refine ⟨_, rfl, _, _, rfl, rfl, ?_⟩
      refine ⟨(lo + hi) / 2 + 1, hi, some (.int (((lo : Int) + (hi : Int)) / 2)), _, _, by rw [Int.natCast_add, ← emid]; rfl, sG.trans a1, by omega, hhB, hKh, .inr ⟨bm, g0, rs, ?_, a6⟩, by omega⟩
      rw [Nat.add_sub_cancel]; exact hbm
  rintro σ' G5 ⟨lo, b, o7, o8, o9, f0, rfl, s5, hb, hK, hR⟩
  have hbB := List.mem_of_getElem? hb
  have hdb : ∀ n ∈ t.ks, t.d n ≤ b := fun n hn => by have := hLd n hn; have := hBL b hbB; omega
  refine ⟨_, rfl, p, C, dx, _, _, rfl, s5 _ _ (s04 _ _ h1), TP.cl, TP.nD, fld_d, ?_⟩
  refine ⟨_, rfl, _, rfl, _, rfl, _, rfl, bl, _, _, _, rfl, rfl, SqL.of (s5 _ _ gbl), atI_nat (v := .int b) (by rw [List.getElem?_map, hb]; rfl), ?_⟩
  refine ⟨p, F0, t, b, kvs, es, rfl, hp4.same s5, okp, s5 _ _ g4, hes4.same s5, hel, fun e he => (oes.row e he).1, fun rl Hl yl sl hrl hal => ?_⟩
  refine ⟨da, rl, t.ks, t.d, yl, _, rfl, hdG (s5.trans sl), okp.nd, okp.kl, hrl, hal, by have := hlml b; omega, hkeys b, ?_, fun r mv rg G' f ys rs g0 a1 a2 a3 a4 a5 a6 a7 => (a6.no hK).elim⟩
  intro r mv rg G6 f a1' a2 a3 a4 a5
  have a1 := sl.trans a1'
  have s46 := s5.trans a1
  have s06 := s04.trans s46
  refine ⟨r, _, rfl, SqT.of a2, rfl, _, _, rfl, _, _, rfl, rfl, ?_⟩
  refine ⟨_, rfl, rfl, _, rfl, ?_⟩
  rw [dec_int]
  by_cases c0 : lo = 0
  · subst c0
    rw [decide_eq_true (show ((0 : Nat) : Int) = 0 from rfl)]
    refine iteT ?_
    have ebL : b = L := by
      have hLB := (hBm L).mpr (.inl rfl)
      obtain ⟨n, hn, en⟩ := List.mem_iff_getElem.mp hLB
      obtain ⟨h1', e1'⟩ := List.getElem?_eq_some_iff.mp hb
      rw [List.pairwise_iff_getElem] at hBp
      have := hBL b hbB
      by_cases c : n = 0
      · subst c; omega
      · have := hBp 0 n h1' hn (by omega); omega
    subst ebL
    refine ⟨_, rfl, _, rfl, mv, t.ks, f, rfl, a3, okp.nd, by omega, okp.out, fun m2 G7 s7 hm2 => rd_l0 fun wa G8 nwa s8 hwa => ?_⟩
    have s68 := s7.trans s8
    have s08 := s06.trans s68
    refine ⟨da, _, s08 _ _ h2, True.intro, fun od => ?_⟩
    have hd8 := s08 _ _ h2
    have hf : upd G8 da (.frz od (.dK (kN t.ks t.d))) da = some (.frz od (.dK (kN t.ks t.d))) := upd_same
    have hun : ∀ {H2 : Hp}, Same (upd G8 da (.frz od (.dK (kN t.ks t.d)))) H2 → Same G8 (upd H2 da (.dK (kN t.ks t.d))) := fun s2 => unlock hd8 s2
    have hpf : upd G8 da (.frz od (.dK (kN t.ks t.d))) p = some (.ins C dx [(("delays" : Str), V.ref da), (("wires" : Str), V.ref wa0)]) := by
      rw [upd_ne (fun z => by rw [z, h2] at h1; cases h1)]; exact s08 _ _ h1
    have hfo : ∀ (x : Addr), x ≠ da → upd G8 da (.frz od (.dK (kN t.ks t.d))) x = G8 x := fun x n => upd_ne n
    generalize upd G8 da (.frz od (.dK (kN t.ks t.d))) = Hf at hf hun hpf hfo ⊢
    refine ⟨_, rfl, p, C, dx, _, _, rfl, hpf, TP.cl, TP.nD, fld_d, da, od, rfl, .inl ⟨_, hf, fun c nc => lc_it (walk_keys (d := da) (o := od) (kvs := kN t.ks t.d)) (fun j G => Same Hf G ∧ G c = some (.lst (((t.ks.take j).filter fun n => decide (t.d n = b)).map V.str)))
      ⟨same_upd nc, upd_same⟩ (fun j G _ hh => hh.1 _ _ hf) ?_ ?_⟩⟩
    · rintro j y GX GY hj ⟨sG, gc⟩ ⟨rfl, ky, vy, hky, rfl⟩
      have hn' : ∃ n, t.ks[j]? = some n ∧ ky = Sum.inr n := by
        unfold kN at hky
        rw [List.getElem?_map] at hky
        obtain ⟨n, hn, e⟩ := Option.map_eq_some_iff.mp hky
        cases e
        exact ⟨n, hn, rfl⟩
      obtain ⟨n, hn', rfl⟩ := hn'
      have dgn : DGet GY da (.str n) (some (.int (t.d n))) := by
        rw [← kN_get (wf := t.d) (List.mem_of_getElem? hn')]
        exact .inl ⟨_, Sum.inr n, .inr ⟨od, sG _ _ hf⟩, rfl, rfl⟩
      refine ⟨rfl, _, rfl, p, C, dx, _, _, rfl, sG _ _ hpf, TP.cl, TP.nD, fld_d, _, rfl, da, _, rfl, dgn, _, rfl, rfl, _, rfl, ?_⟩
      rw [dec_int]
      by_cases c1 : t.d n = b
      · rw [decide_eq_true c1]
        refine iteT ⟨_, rfl, _, gc, ?_, sG.mut nc, ?_⟩
        · rw [List.length_map]
          have := List.length_filter_le (fun n => decide (t.d n = b)) (t.ks.take j)
          rw [List.length_take] at this
          exact szl (by omega)
        · rw [upd_same, take_succ_at hn', List.filter_append, List.filter_cons_of_pos (by rw [decide_eq_true_eq]; exact c1), List.filter_nil, List.map_append]; rfl
      · rw [decide_eq_false c1]
        refine iteF ⟨sG, ?_⟩
        rw [take_succ_at hn', List.filter_append, List.filter_cons_of_neg (by rw [decide_eq_true_eq]; exact c1), List.filter_nil, List.append_nil]
        exact gc
    rintro G9 ⟨sG, gc⟩
    rw [kN_len, List.take_length] at gc
    have hcm : c ≠ da := fun z => by rw [z, hf] at nc; cases nc
    refine ⟨sG _ _ hf, ?_⟩
    have s9 := hun sG
    have gc9 : upd G9 da (.dK (kN t.ks t.d)) c = some (.lst ((t.ks.filter fun n => decide (t.d n = b)).map V.str)) := by rw [upd_ne hcm]; exact gc
    generalize upd G9 da (.dK (kN t.ks t.d)) = G10 at s9 gc9 ⊢
    obtain ⟨n0, hn0, en0⟩ := hL1
    have hne : ∃ n l, (t.ks.filter fun n => decide (t.d n = b)) = n :: l ∧ n ∈ t.ks ∧ t.d n = b := by
      cases hfl : t.ks.filter fun n => decide (t.d n = b) with
      | nil =>
        have : n0 ∈ t.ks.filter fun n => decide (t.d n = b) := List.mem_filter.mpr ⟨hn0, decide_eq_true en0⟩
        rw [hfl] at this; cases this
      | cons n l =>
        have : n ∈ t.ks.filter fun n => decide (t.d n = b) := by rw [hfl]; exact List.mem_cons_self
        obtain ⟨a, b'⟩ := List.mem_filter.mp this
        exact ⟨n, l, rfl, a, of_decide_eq_true b'⟩
    obtain ⟨n1, l1, hfl, hn1, en1⟩ := hne
    rw [hfl, List.map_cons] at gc9
    refine ⟨_, rfl, c, _, rfl, SqL.of gc9, fun c2 nc2 => ?_⟩
    rw [cut_one]
    have s11 := same_upd (o := HO.lst [V.str n1]) nc2
    have hc2 : upd G10 c2 (.lst [V.str n1]) c2 = some (.lst [V.str n1]) := upd_same
    generalize upd G10 c2 (.lst [V.str n1]) = G11 at s11 hc2 ⊢
    intro x dy nx ny nxy
    have s12 := same_mk (Ck := CF) nx ny
    have s811 := (s8.trans s9).trans s11
    have s011 := (s08.trans s9).trans s11
    refine ⟨x, dy, b, m2, wa, c2, t.ks, _, [], _, [.inl n1], rfl, upd_same, s12 _ _ (s811 _ _ hm2), okp.nd, by omega, s12 _ _ ((s9.trans s11) _ _ hwa), s12 _ _ hc2, Al.one rfl, fun G12 b12 hfs => ⟨rfl, ?_⟩⟩
    have sF : Same H G12 := fun q o e => b12 q o (ne_of_none (s011 _ _ e) nx) (s12 _ _ (s011 _ _ e))
    exact k x G12 b _ [] [.inl n1] sF hfs (best_low oes.ps (lims_ok oes b) a5 hdb ⟨n1, hn1, en1⟩).shift (by omega) (.inl ⟨rfl, n1, hn1, en1, rfl⟩)
  · rw [decide_eq_false (show ¬ ((lo : Nat) : Int) = 0 by omega)]
    refine iteF ?_
    rcases hR with e | ⟨b0, g1', rs1, hb0, hr0⟩
    · exact absurd e c0
    have eb0 : ((lo : Int) - 1) = ((lo - 1 : Nat) : Int) := by omega
    refine ⟨_, rfl, p, C, dx, _, _, rfl, s06 _ _ h1, TP.cl, TP.nD, fld_d, ?_⟩
    refine ⟨_, rfl, _, rfl, _, rfl, _, rfl, _, _, rfl, rfl, bl, _, _, _, rfl, rfl, SqL.of (s46 _ _ gbl), atI_mid (v := .int b0) eb0 (by rw [List.getElem?_map, hb0]; rfl), ?_⟩
    refine ⟨p, F0, t, b0, kvs, es, rfl, hp4.same s46, okp, s46 _ _ g4, hes4.same s46, hel, fun e he => (oes.row e he).1, fun rl Hl yl sl2 hrl hal => ?_⟩
    refine ⟨da, rl, t.ks, t.d, yl, _, rfl, hdG (s46.trans sl2), okp.nd, okp.kl, hrl, hal, by have := hlml b0; omega, hkeys b0, fun r mv rg G' f a1 a2 a3 a4 a5 => (hr0.no a5).elim, ?_⟩
    intro r2 mv2 rg2 G7 f2 ys rs g0 q1' q2 q3 q4 q5 q6 q7
    have q1 := sl2.trans q1'
    have hrp : ∀ r ∈ rs, r.p.length ≤ 16384 := fun r hr => by
      have hm := q6.mem r hr
      rcases List.mem_append.mp hm with hm | hm
      · obtain ⟨j, q, _, rfl⟩ := wl_mem hm
        show 1 ≤ 16384
        decide
      · exact (oes.row r (List.mem_filter.mp hm).1).2.2
    refine ⟨r2, _, rfl, SqT.of q2, rfl, _, _, rfl, _, _, rfl, rfl, ?_⟩
    refine ⟨_, rfl, rg2, ys, rs, rfl, q4, q5, hrp, q7, fun r3 wa ca cx G8 s8 hr3 hwa hca hcx => ?_⟩
    refine ⟨r3, _, rfl, SqT.of hr3, rfl, _, _, rfl, _, _, rfl, rfl, ?_⟩
    have s68 := q1.trans s8
    have s48 := s46.trans s68
    have s08 := s04.trans s48
    refine ⟨_, rfl, _, rfl, bl, _, _, _, rfl, rfl, SqL.of (s48 _ _ gbl), atI_nat (v := .int b) (by rw [List.getElem?_map, hb]; rfl), ?_⟩
    refine ⟨_, rfl, mv, t.ks, f, rfl, s68 _ _ a3, okp.nd, by omega, okp.out, fun m2 G9 s9 hm2 => ?_⟩
    refine ⟨_, rfl, _, rfl, ?_⟩
    intro x dy nx ny nxy
    have s10 := same_mk (Ck := CF) nx ny
    refine ⟨x, dy, b, m2, wa, ca, t.ks, _, walkOf rs, cx, cutsOf 0 rs, rfl, upd_same, s10 _ _ hm2, okp.nd, by omega, s10 _ _ (s9 _ _ hwa), s10 _ _ (s9 _ _ hca), (hcx.mono fun _ _ z => z.tups s9.tups).mono fun _ _ z => z.tups s10.tups, fun G12 b12 hfs => ⟨rfl, ?_⟩⟩
    have s09 := s08.trans s9
    have sF : Same H G12 := fun q o e => b12 q o (ne_of_none (s09 _ _ e) nx) (s10 _ _ (s09 _ _ e))
    have hnx : ∀ u z h D, EntL es u z h D → b0 < D → b ≤ D := fun u z h D hE hlt => by
      obtain ⟨e, he, _, _, _, e5⟩ := hE
      have hb0B := List.mem_of_getElem? hb0
      refine pw_next hBp hb0 (by rw [show lo - 1 + 1 = lo by omega]; exact hb) ((hBm D).mpr (.inr ⟨e, he, e5, ?_⟩)) hlt
      have := hBL b0 hb0B
      omega
    exact k x G12 b _ _ _ sF hfs (best_high oes.ps (lims_ok oes b) a5 hdb (lims_ok oes b0) hr0 hnx).shift (by omega) (.inr ⟨rs, ring_ev (lims_ok oes b0) q6 hnx, hrp, q7, rfl, rfl⟩)
end
end PN
namespace PN
open PySem PySem.Spec PyProof.Rows L2 LayT
section
variable {P : Program} {w : World} {K : PySem.W.Frag} {mg : Str → Option Value} {base : Heap} {C CP CL CF CB CN : Addr}
/-! ### with_beat -/
def Feas (t : PL) (i : Int) : Prop := (∀ n ∈ t.ks, t.d n ≤ i) ∧ ∃ mv, Good t.ws t.d out mv i
def spWith (C CN : Addr) : Sp := fun vs H Q E => ∃ (p : Addr) (t : PL) (rank : Str → Nat) (i : Int), vs = [.ref p, .int i] ∧ PlAt C H p t ∧ OkPl t ∧ t.ks.length ≤ 14 ∧ OkR t rank ∧
  (¬ Feas t i → ∀ H', Same H H' → E (.ref CN) none H') ∧ (Feas t i → ∀ r H' f, Same H H' → H' r = some (.dK (kN t.ks f)) → f out = 0 → Good t.ws t.d out f i → Q (.ref r) H')
abbrev nWith : List Str := ["plan", "beat", "moves", "ring"]
theorem scWith : FnScope nWith ["plan", "beat"] (defScope sWith) := ⟨rfl, rfl, rfl, by decide +kernel, rfl, by decide +kernel, by decide +kernel⟩
theorem ok_with {fE fN fL fP fM fS f : Addr} {fdE fdN fdL fdP fdM fdS fd : FuncData} (F : Fun K "with_beat" "with_beat" sWith f fd) (T : Txt K mg) (TP : TxtP K mg C) (TN : ErrC K mg "NoPlacing" CN) (DE : Dfn P w K mg base "need_plan" 1 ["plan"] (spNeed0 C) fE fdE) (DN : Dfn P w K mg base "is_number" 1 ["thing"] spNum fN fdN)
    (DL : Dfn P w K mg base "limits_of" 3 ["plan", "paths", "beat"] (spLims C CP CL) fL fdL) (DP : Dfn P w K mg base "paths_of" 3 ["plan"] (spPaths C CP) fP fdP) (DM : Dfn P w K mg base "moves_within" 1 ["gates", "limits"] (spWithin CP CL) fM fdM) (DS : Dfn P w K mg base "stood" 1 ["moves"] spStood fS fdS) :
    FnOk P w K mg base (L2.CX P w) 4 f fd ["plan", "beat"] (spWith C CN) := by
  refine F.okX scWith (fun vs H Q E h => ?_) (fun cdv A outer s H vs Q E hr h => ?_)
  · obtain ⟨p, t, rank, i, rfl, _⟩ := h
    rfl
  have nd := scWith.nd
  have hu := hu_of hr
  have hr1 : Room 1 _ := hr.mono (by decide)
  refine ⟨_, pss_cons (ps_expr (pcl DE hr1 (pa_cons (pv 0) pa_nil)))
    (pss_cons (ps_if (PW.pt (pw_or (pt_not (pt_val (pcl DN hr1 (pa_cons (pv 1) pa_nil)))) (pw_or1 (pt_cmpR op_lt (pv 1) (pe_callB (cr_max rfl) (by rfl) T.max (by decide +kernel) (pa_cons (pe_listVals (by rfl) (pe_fld (pv 0) rfl) (by rfl) T.list (by decide +kernel)) pa_nil)) (nomark _)))))
      (pss_one (ps_raise rfl (takes_of rfl rfl rfl rfl) (pmk_own PySem.F.excBase_ValueError TN.q TN.g TN.k (raises_own TN.b TN.t) (by exact rfl)))) pss_nil)
    (pss_cons (ps_asg (pcl DM hr1 (pa_cons (pe_fld (pv 0) rfl) (pa_cons (pcl DL hr (pa_cons (pv 0) (pa_cons (pcl DP hr (pa_cons (pv 0) pa_nil)) (pa_cons (pv 1) pa_nil)))) pa_nil))) (pg_tup (by rfl) (pgs_cons (pg_name (i := 2) nd rfl (.inl rfl)) (pgs_cons (pg_name (i := 3) nd rfl (.inl rfl)) pgs_nil))))
    (pss_cons (ps_if (pt_truth (pv 3) (by intro _; rfl)) (pss_one (ps_raise rfl (takes_of rfl rfl rfl rfl) (pmk_own PySem.F.excBase_ValueError TN.q TN.g TN.k (raises_own TN.b TN.t) (by exact rfl)))) pss_nil)
    (pss_one (ps_ret (pcl DS hr1 (pa_cons (pv 2) pa_nil))))))), ?_⟩
  obtain ⟨p, t, rank, i, rfl, hp, okp, hk14, okr, kE, kQ⟩ := h
  obtain ⟨dx, da, wa, xs, h1, h2, h3, h4⟩ := id hp
  refine ⟨_, rfl, p, dx, _, rfl, h1, ?_⟩
  refine ⟨_, rfl, .int i, .int i, rfl, (by unfold DAt; rfl), _, rfl, iteF ?_⟩
  refine ⟨_, rfl, _, rfl, p, C, dx, _, _, rfl, h1, TP.cl, TP.nD, fld_d, da, _, rfl, h2, fun pl npl => ?_⟩
  rw [kN_vals]
  have s1 := same_upd (o := HO.lst ((t.ks.map t.d).map V.int)) npl
  refine ⟨pl, t.ks.map t.d, rfl, SqL.of upd_same, ?_, fun mm hmm hle => ⟨_, _, rfl, rfl, _, rfl, ?_⟩⟩
  · rw [List.length_map]; exact List.length_pos_of_mem okp.out
  generalize upd H pl (.lst ((t.ks.map t.d).map V.int)) = G1 at s1 ⊢
  obtain ⟨n0, hn0, e0⟩ := List.mem_map.mp hmm
  by_cases c : i < mm
  · rw [decide_eq_true c]
    exact iteT (kE (fun hf => by have := hf.1 n0 hn0; omega) G1 s1)
  rw [decide_eq_false c]
  have hdi : ∀ n ∈ t.ks, t.d n ≤ i := fun n hn => by
    have := hle _ (List.mem_map.mpr ⟨n, hn, rfl⟩)
    omega
  refine iteF ?_
  refine ⟨_, rfl, p, C, dx, _, _, rfl, s1 _ _ h1, TP.cl, TP.nD, fld_d, _, rfl, _, rfl, p, t, rank, rfl, hp.same s1, okp, hk14, okr, fun F0 G2 kvs s2 g2 hF hC => ?_⟩
  obtain ⟨es, hes, oes⟩ := fd_es okp hk14 hF hC
  have s12 := s1.trans s2
  refine ⟨_, rfl, p, F0, t, i, kvs, es, rfl, hp.same s12, okp, g2, hes, oes.len, fun e he => (oes.row e he).1, fun L G3 ys s3 g3 hal => ?_⟩
  have s13 := s12.trans s3
  have hll := lim_len okp oes i
  refine ⟨da, L, t.ks, t.d, ys, _, rfl, s13 _ _ h2, okp.nd, okp.kl, g3, hal, by omega, lim_keys okp oes i, ?_, ?_⟩
  · intro r mv rg G4 f s4 hr4 hmv hrg hK
    have s14 := s13.trans s4
    refine ⟨r, _, rfl, SqT.of hr4, rfl, _, _, rfl, _, _, rfl, rfl, ?_⟩
    refine ⟨_, rfl, false, .inl ⟨_, SqL.of hrg, rfl⟩, iteF ?_⟩
    have hg := (lims_ok oes i).good oes.ps hK
    refine ⟨_, rfl, mv, t.ks, f, rfl, hmv, okp.nd, by omega, okp.out, fun r2 G5 s5 hr5 => kQ ⟨hdi, f, hg⟩ r2 G5 _ (s14.trans s5) hr5 (by omega) (good_shift hg)⟩
  · intro r mv rg G4 f zs rs g0 s4 hr4 hmv hrg hzs hring hrl
    have s14 := s13.trans s4
    refine ⟨r, _, rfl, SqT.of hr4, rfl, _, _, rfl, _, _, rfl, rfl, ?_⟩
    have hne : zs.isEmpty = false := by
      obtain ⟨l, hl, _⟩ := hring.first
      have := hzs.1
      cases zs with
      | nil => cases rs with
        | nil => cases hl
        | cons a b => simp at this
      | cons a b => rfl
    refine ⟨_, rfl, true, .inl ⟨_, SqL.of hrg, by rw [hne]; rfl⟩, iteT ?_⟩
    exact kE (fun ⟨_, mv, hg⟩ => hring.no ((lims_ok oes i).keeps hg)) G4 s14
end
end PN
/-! How best beats go together -/
namespace PN
section
variable {α : Type} [DecidableEq α] {keys : List α} {d d' : α → Int} {ws ws' : List (α × α × Int)} {out : α} {mv f f' : α → Int} {M : α → Prop}
/-! d on keys alone -/
theorem Wk.congr (hk : ∀ q ∈ ws, q.1 ∈ keys ∧ q.2.1 ∈ keys) (hd : ∀ n ∈ keys, d n = d' n) {u z : α} {p : List Nat} {h D : Int} (w : Wk ws d M u p z h D) : Wk ws d' M u p z h D := by
  induction w with
  | @one i q hq =>
    obtain ⟨k1, k2⟩ := hk q (List.mem_of_getElem? hq)
    rw [hd _ k1, hd _ k2]
    exact .one hq
  | @cons i q is z h D h0 hm r ih =>
    obtain ⟨k1, k2⟩ := hk q (List.mem_of_getElem? h0)
    rw [hd _ k1]
    exact .cons h0 hm ih
theorem Good.congr (hk : ∀ q ∈ ws, q.1 ∈ keys ∧ q.2.1 ∈ keys) (hd : ∀ n ∈ keys, d n = d' n) {b : Int} (h : Good ws d out mv b) : Good ws d' out mv b :=
  ⟨h.1, fun u p z hh D w l => h.2 u p z hh D (w.congr hk fun n hn => (hd n hn).symm) l⟩
theorem Best.congr {keys' : List α} (hk : ∀ q ∈ ws, q.1 ∈ keys ∧ q.2.1 ∈ keys) (hd : ∀ n ∈ keys, d n = d' n) (hkk : ∀ n, n ∈ keys ↔ n ∈ keys') {b : Int} (h : Best keys d ws out b f) : Best keys' d' ws out b f :=
  ⟨h.good.congr hk hd, fun n hn => by rw [← hd n ((hkk n).mpr hn)]; exact h.dle n ((hkk n).mpr hn), fun mv m hg hm => h.least mv m (hg.congr hk fun n hn => (hd n hn).symm) fun n hn => by rw [hd n hn]; exact hm n ((hkk n).mp hn)⟩
/-! a beat, told by good moves -/
theorem beat_min (R : Rt keys d ws out) {m m' : Int} (h : BeatIs keys d ws out mv (some m)) (hg : Good ws d out mv m') (hd : ∀ n ∈ keys, d n ≤ m') : m ≤ m' := by
  obtain ⟨m2, e, h2⟩ := beat_of_good R hg hd h
  cases e
  exact h2
/-! times a number -/
theorem Wk.scale {c : Int} {u z : α} {p : List Nat} {h D : Int} (w : Wk ws d M u p z h D) : Wk ws (fun n => c * d n) M u p z h (c * D) := by
  induction w with
  | @one i q hq => rw [Int.mul_add]; exact .one hq
  | @cons i q is z h D h0 hm r ih => rw [Int.mul_add]; exact .cons h0 hm ih
theorem Wk.unscale {c : Int} {u z : α} {p : List Nat} {h D : Int} (w : Wk ws (fun n => c * d n) M u p z h D) : ∃ D', D = c * D' ∧ Wk ws d M u p z h D' := by
  induction w with
  | @one i q hq => exact ⟨d q.1 + d q.2.1, by rw [Int.mul_add], .one hq⟩
  | @cons i q is z h D h0 hm r ih =>
    obtain ⟨D', rfl, w⟩ := ih
    exact ⟨d q.1 + D', by rw [Int.mul_add], .cons h0 hm w⟩
theorem Good.scale {c b : Int} (hc : 0 < c) (h : Good ws d out mv b) : Good ws (fun n => c * d n) out mv (c * b) := by
  refine ⟨h.1, fun u p z hh D w l => ?_⟩
  obtain ⟨D', rfl, w'⟩ := w.unscale
  exact h.2 u p z hh D' w' (Int.lt_of_mul_lt_mul_left l (Int.le_of_lt hc))
theorem Good.unscale {c b : Int} (hc : 0 < c) (h : Good ws (fun n => c * d n) out mv b) : Good ws d out mv (b / c) := by
  refine ⟨h.1, fun u p z hh D w l => h.2 u p z hh (c * D) w.scale ?_⟩
  have := (Int.ediv_lt_iff_lt_mul hc).mp l
  rw [Int.mul_comm] at this
  exact this
theorem best_scale {c b b' : Int} (hc : 0 < c) (h : Best keys d ws out b f) (h' : Best keys (fun n => c * d n) ws out b' f') : b' = c * b := by
  have h1 : b' ≤ c * b := h'.least f (c * b) (h.good.scale hc) fun n hn => Int.mul_le_mul_of_nonneg_left (h.dle n hn) (Int.le_of_lt hc)
  have h2 : b ≤ b' / c := h.least f' (b' / c) (h'.good.unscale hc) fun n hn => (Int.le_ediv_iff_mul_le hc).mpr (by rw [Int.mul_comm]; exact h'.dle n hn)
  have h3 := (Int.le_ediv_iff_mul_le hc).mp h2
  rw [Int.mul_comm] at h3
  omega
/-! turned round -/
theorem Wk.rev (hs : ∀ q ∈ ws, (q.2.1, q.1, q.2.2) ∈ ws') {u z : α} {p : List Nat} {h D : Int} (w : Wk ws d M u p z h D) : ∃ p', Wk ws' d M z p' u h D := by
  induction w with
  | @one i q hq =>
    obtain ⟨j, hj, e⟩ := List.mem_iff_getElem.mp (hs q (List.mem_of_getElem? hq))
    have w1 : Wk ws' d M q.2.1 [j] q.1 q.2.2 (d q.2.1 + d q.1) := .one (q := (q.2.1, q.1, q.2.2)) (by rw [List.getElem?_eq_getElem hj, e])
    rw [Int.add_comm] at w1
    exact ⟨_, w1⟩
  | @cons i q is z h D h0 hm r ih =>
    obtain ⟨p', w'⟩ := ih
    obtain ⟨j, hj, e⟩ := List.mem_iff_getElem.mp (hs q (List.mem_of_getElem? h0))
    have w1 : Wk ws' d M q.2.1 [j] q.1 q.2.2 (d q.2.1 + d q.1) := .one (q := (q.2.1, q.1, q.2.2)) (by rw [List.getElem?_eq_getElem hj, e])
    have w2 := w'.join hm w1
    rw [show D + (d q.2.1 + d q.1) - d q.2.1 = d q.1 + D by omega, Int.add_comm h] at w2
    exact ⟨_, w2⟩
theorem Good.rev (hs : ∀ q ∈ ws', (q.2.1, q.1, q.2.2) ∈ ws) {b : Int} (h : Good ws d out mv b) : Good ws' d out (fun x => - mv x) b := by
  refine ⟨fun q hq => ?_, fun u p z hh D w l => ?_⟩
  · have := h.1 _ (hs q hq)
    unfold rg at *
    dsimp only at *
    omega
  · obtain ⟨p', w'⟩ := w.rev hs
    have := h.2 _ _ _ _ _ w' l
    dsimp only
    omega
theorem best_rev (hs : ∀ q ∈ ws', (q.2.1, q.1, q.2.2) ∈ ws) (hs' : ∀ q ∈ ws, (q.2.1, q.1, q.2.2) ∈ ws') {b b' : Int} (h : Best keys d ws out b f) (h' : Best keys d ws' out b' f') : b' = b := by
  have h1 := h'.least _ _ (h.good.rev hs) h.dle
  have h2 := h.least _ _ (h'.good.rev hs') h'.dle
  omega
theorem beat_rev (R : Rt keys d ws out) (R' : Rt keys d ws' out) (hs : ∀ q ∈ ws', (q.2.1, q.1, q.2.2) ∈ ws) (hs' : ∀ q ∈ ws, (q.2.1, q.1, q.2.2) ∈ ws') {m m' : Int} (h : BeatIs keys d ws out (fun _ => 0) (some m)) (h' : BeatIs keys d ws' out (fun _ => 0) (some m')) : m' = m := by
  have e : (fun x : α => - (fun _ : α => (0 : Int)) x) = fun _ => 0 := by funext x; rfl
  have g1 := (good_of_beat R h).rev hs
  have g2 := (good_of_beat R' h').rev hs'
  rw [e] at g1 g2
  have h1 := beat_min R' h' g1 (beat_low h)
  have h2 := beat_min R h g2 (beat_low h')
  omega
theorem rank_rev {rank : α → Nat} (hs : ∀ q ∈ ws', (q.2.1, q.1, q.2.2) ∈ ws) (hr : ∀ b n, Zr ws out (fun _ => 0) b n → rank b < rank n) : ∃ rank' : α → Nat, ∀ b n, Zr ws' out (fun _ => 0) b n → rank' b < rank' n := by
  have bd : ∀ l : List (α × α × Int), ∃ N : Nat, ∀ q ∈ l, rank q.1 ≤ N ∧ rank q.2.1 ≤ N := by
    intro l
    induction l with
    | nil => exact ⟨0, fun q h => by cases h⟩
    | cons a l ih =>
      obtain ⟨N, hN⟩ := ih
      refine ⟨N + rank a.1 + rank a.2.1, fun q hq => ?_⟩
      rcases List.mem_cons.mp hq with rfl | hq
      · omega
      · have := hN q hq; omega
  obtain ⟨N, hN⟩ := bd ws
  refine ⟨fun x => N - rank x, fun b n z => ?_⟩
  obtain ⟨q, hq, rfl, rfl, e, e1, e2⟩ := z
  have hq' := hs q hq
  have h1 := hr q.2.1 q.1 ⟨_, hq', rfl, rfl, by rw [rg0] at *; exact e, e2, e1⟩
  have h2 := (hN _ hq').2
  dsimp only at h2 ⊢
  omega
/-! fewer wires, more registers -/
theorem Wk.less (hs : ∀ q ∈ ws', ∃ q2 ∈ ws, q2.1 = q.1 ∧ q2.2.1 = q.2.1 ∧ q2.2.2 ≤ q.2.2) {u z : α} {p : List Nat} {h D : Int} (w : Wk ws' d M u p z h D) : ∃ p' h', Wk ws d M u p' z h' D ∧ h' ≤ h := by
  induction w with
  | @one i q hq =>
    obtain ⟨q2, h2, e1, e2, e3⟩ := hs q (List.mem_of_getElem? hq)
    obtain ⟨j, hj, e⟩ := List.mem_iff_getElem.mp h2
    have w1 : Wk ws d M q2.1 [j] q2.2.1 q2.2.2 (d q2.1 + d q2.2.1) := .one (by rw [List.getElem?_eq_getElem hj, e])
    rw [e1, e2] at w1
    exact ⟨_, _, w1, e3⟩
  | @cons i q is z h D h0 hm r ih =>
    obtain ⟨p', h', w', hle⟩ := ih
    obtain ⟨q2, h2, e1, e2, e3⟩ := hs q (List.mem_of_getElem? h0)
    obtain ⟨j, hj, e⟩ := List.mem_iff_getElem.mp h2
    rw [← e2] at w' hm
    have w2 : Wk ws d M q2.1 (j :: p') z (q2.2.2 + h') (d q2.1 + D) := .cons (by rw [List.getElem?_eq_getElem hj, e]) hm w'
    rw [e1] at w2
    exact ⟨_, _, w2, by omega⟩
theorem Good.less (hs : ∀ q ∈ ws', ∃ q2 ∈ ws, q2.1 = q.1 ∧ q2.2.1 = q.2.1 ∧ q2.2.2 ≤ q.2.2) {b : Int} (h : Good ws d out mv b) : Good ws' d out mv b := by
  refine ⟨fun q hq => ?_, fun u p z hh D w l => ?_⟩
  · obtain ⟨q2, h2, e1, e2, e3⟩ := hs q hq
    have := h.1 q2 h2
    unfold rg at *
    rw [e1, e2] at this
    omega
  · obtain ⟨p', h', w', hle⟩ := w.less hs
    have := h.2 _ _ _ _ _ w' l
    omega
theorem best_less (hs : ∀ q ∈ ws', ∃ q2 ∈ ws, q2.1 = q.1 ∧ q2.2.1 = q.2.1 ∧ q2.2.2 ≤ q.2.2) {b b' : Int} (h : Best keys d ws out b f) (h' : Best keys d ws' out b' f') : b' ≤ b := h'.least _ _ (h.good.less hs) h.dle
/-! side by side -/
structure Twin (keys : List α) (out : α) (nz un : α → α) : Prop where
  o : nz out = out
  k : ∀ x ∈ keys, x ≠ out → nz x ∉ keys
  u : ∀ x ∈ keys, un (nz x) = x
  ko : out ∈ keys
def two (keys : List α) {β : Type} (un : α → α) (g g' : α → β) : α → β := fun x => if x ∈ keys then g x else g' (un x)
def zw (nz : α → α) (q : α × α × Int) : α × α × Int := (nz q.1, nz q.2.1, q.2.2)
theorem two_in {β : Type} {un : α → α} {g g' : α → β} {x : α} (h : x ∈ keys) : two keys un g g' x = g x := if_pos h
theorem two_nz {β : Type} {nz un : α → α} (T : Twin keys out nz un) {g g' : α → β} (e : g out = g' out) {x : α} (h : x ∈ keys) : two keys un g g' (nz x) = g' x := by
  unfold two
  by_cases c : x = out
  · subst c; rw [T.o, if_pos h, e]
  · rw [if_neg (T.k x h c), T.u x h]
theorem nz_ne {nz un : α → α} (T : Twin keys out nz un) {x : α} (h : x ∈ keys) : nz x = out ↔ x = out := by
  refine ⟨fun e => Classical.byContradiction fun c => T.k x h c (by rw [e]; exact T.ko), fun e => by rw [e, T.o]⟩
/-- a walk of both stays on its side -/
theorem Wk.side {nz un : α → α} (T : Twin keys out nz un) {c : Int} (ho : d out = 0) (hk : ∀ q ∈ ws, q.1 ∈ keys ∧ q.2.1 ∈ keys) {u z : α} {p : List Nat} {h D : Int}
    (w : Wk (ws ++ ws.map (zw nz)) (two keys un d fun n => c * d n) (fun x => x ≠ out) u p z h D) :
    (∃ p', Wk ws d (fun x => x ≠ out) u p' z h D) ∨ ∃ u0 z0 p' D0, u0 ∈ keys ∧ z0 ∈ keys ∧ u = nz u0 ∧ z = nz z0 ∧ D = c * D0 ∧ Wk ws d (fun x => x ≠ out) u0 p' z0 h D0 := by
  have eo : d out = (fun n => c * d n) out := by dsimp only; rw [ho, Int.mul_zero]
  have at_ : ∀ {q : α × α × Int}, q ∈ ws → ∃ (j : Nat), ws[j]? = some q := fun {q} hq => by
    obtain ⟨j, hj, e⟩ := List.mem_iff_getElem.mp hq
    exact ⟨j, by rw [List.getElem?_eq_getElem hj, e]⟩
  induction w with
  | @one i q hq =>
    rcases List.mem_append.mp (List.mem_of_getElem? hq) with h1 | h1
    · obtain ⟨j, hj⟩ := at_ h1
      obtain ⟨k1, k2⟩ := hk q h1
      rw [two_in k1, two_in k2]
      exact .inl ⟨_, .one hj⟩
    · obtain ⟨q0, h0, rfl⟩ := List.mem_map.mp h1
      obtain ⟨j, hj⟩ := at_ h0
      obtain ⟨k1, k2⟩ := hk q0 h0
      refine .inr ⟨q0.1, q0.2.1, [j], d q0.1 + d q0.2.1, k1, k2, rfl, rfl, ?_, .one hj⟩
      show two keys un d _ (nz q0.1) + two keys un d _ (nz q0.2.1) = _
      rw [two_nz T eo k1, two_nz T eo k2, Int.mul_add]
  | @cons i q is z h D hq hm r ih =>
    rcases List.mem_append.mp (List.mem_of_getElem? hq) with h1 | h1
    · obtain ⟨j, hj⟩ := at_ h1
      obtain ⟨k1, k2⟩ := hk q h1
      rw [two_in k1]
      rcases ih with ⟨p', w'⟩ | ⟨u0, z0, p', D0, ku, kz, e1, e2, e3, w'⟩
      · exact .inl ⟨_, .cons hj hm w'⟩
      · exfalso
        have : u0 ≠ out := fun e => hm (by rw [e1, e, T.o])
        exact T.k u0 ku this (by rw [← e1]; exact k2)
    · obtain ⟨q0, h0, rfl⟩ := List.mem_map.mp h1
      obtain ⟨j, hj⟩ := at_ h0
      obtain ⟨k1, k2⟩ := hk q0 h0
      have hm' : nz q0.2.1 ≠ out := hm
      have hn0 : q0.2.1 ≠ out := fun e => hm' ((nz_ne T k2).mpr e)
      rcases ih with ⟨p', w'⟩ | ⟨u0, z0, p', D0, ku, kz, e1, e2, e3, w'⟩
      · exfalso
        obtain ⟨⟨q3, hq3, e⟩, _⟩ := w'.ends
        have := (hk q3 hq3).1
        rw [e] at this
        exact T.k q0.2.1 k2 hn0 this
      · have eu : q0.2.1 = u0 := by
          have e1' : nz q0.2.1 = nz u0 := e1
          rw [← T.u _ k2, e1', T.u _ ku]
        subst eu
        refine .inr ⟨q0.1, z0, j :: p', d q0.1 + D0, k1, kz, rfl, e2, ?_, .cons hj hn0 w'⟩
        show two keys un d _ (nz q0.1) + D = _
        rw [two_nz T eo k1, e3, Int.mul_add]
theorem Good.both {nz un : α → α} (T : Twin keys out nz un) {c b b2 : Int} (ho : d out = 0) (hk : ∀ q ∈ ws, q.1 ∈ keys ∧ q.2.1 ∈ keys) (hc : 0 < c) (h : Good ws d out f b) (h1 : b ≤ b2) (h2 : c * b ≤ b2) :
    Good (ws ++ ws.map (zw nz)) (two keys un d fun n => c * d n) out (two keys un f f) b2 := by
  refine ⟨fun q hq => ?_, fun u p z hh D w l => ?_⟩
  · rcases List.mem_append.mp hq with hq | hq
    · obtain ⟨k1, k2⟩ := hk q hq
      have := h.1 q hq
      unfold rg at *
      rw [two_in k1, two_in k2]; exact this
    · obtain ⟨q0, h0, rfl⟩ := List.mem_map.mp hq
      obtain ⟨k1, k2⟩ := hk q0 h0
      have := h.1 q0 h0
      unfold rg zw at *
      dsimp only
      rw [two_nz T rfl k1, two_nz T rfl k2]; exact this
  · rcases w.side T ho hk with ⟨p', w'⟩ | ⟨u0, z0, p', D0, ku, kz, rfl, rfl, rfl, w'⟩
    · obtain ⟨⟨q1, hq1, e1⟩, q2, hq2, e2⟩ := w'.ends
      have k1 := (hk q1 hq1).1
      have k2 := (hk q2 hq2).2
      rw [e1] at k1
      rw [e2] at k2
      rw [two_in k1, two_in k2]
      exact h.2 _ _ _ _ _ w' (by omega)
    · rw [two_nz T rfl ku, two_nz T rfl kz]
      exact h.2 _ _ _ _ _ w' (Int.lt_of_mul_lt_mul_left (Int.lt_of_le_of_lt h2 l) (Int.le_of_lt hc))
theorem Wk.left {l2 : List (α × α × Int)} {u z : α} {p : List Nat} {h D : Int} (w : Wk ws d M u p z h D) : Wk (ws ++ l2) d M u p z h D := by
  induction w with
  | @one i q hq => exact .one (by rw [List.getElem?_append_left (List.getElem?_eq_some_iff.mp hq).1]; exact hq)
  | @cons i q is z h D hq hm r ih => exact .cons (by rw [List.getElem?_append_left (List.getElem?_eq_some_iff.mp hq).1]; exact hq) hm ih
theorem Wk.twin {nz un : α → α} (T : Twin keys out nz un) {c : Int} (ho : d out = 0) (hk : ∀ q ∈ ws, q.1 ∈ keys ∧ q.2.1 ∈ keys) {u z : α} {p : List Nat} {h D : Int} (w : Wk ws d (fun x => x ≠ out) u p z h D) :
    ∃ p', Wk (ws ++ ws.map (zw nz)) (two keys un d fun n => c * d n) (fun x => x ≠ out) (nz u) p' (nz z) h (c * D) := by
  have eo : d out = (fun n => c * d n) out := by dsimp only; rw [ho, Int.mul_zero]
  have at_ : ∀ {q : α × α × Int}, q ∈ ws → ∃ (j : Nat), (ws ++ ws.map (zw nz))[j]? = some (zw nz q) := fun {q} hq => by
    obtain ⟨j, hj, e⟩ := List.mem_iff_getElem.mp (List.mem_append_right ws (List.mem_map.mpr ⟨q, hq, rfl⟩ : zw nz q ∈ ws.map (zw nz)))
    exact ⟨j, by rw [List.getElem?_eq_getElem hj, e]⟩
  induction w with
  | @one i q hq =>
    have hm := List.mem_of_getElem? hq
    obtain ⟨j, hj⟩ := at_ hm
    obtain ⟨k1, k2⟩ := hk q hm
    have w1 : Wk (ws ++ ws.map (zw nz)) (two keys un d fun n => c * d n) (fun x => x ≠ out) _ _ _ _ _ := .one hj
    unfold zw at w1
    dsimp only at w1
    rw [two_nz T eo k1, two_nz T eo k2, ← Int.mul_add] at w1
    exact ⟨_, w1⟩
  | @cons i q is z h D hq hm r ih =>
    obtain ⟨p', w'⟩ := ih
    have hqm := List.mem_of_getElem? hq
    obtain ⟨j, hj⟩ := at_ hqm
    obtain ⟨k1, k2⟩ := hk q hqm
    have w1 : Wk (ws ++ ws.map (zw nz)) (two keys un d fun n => c * d n) (fun x => x ≠ out) _ _ _ _ _ := .cons hj (fun e => hm ((nz_ne T k2).mp e)) w'
    unfold zw at w1
    dsimp only at w1
    rw [two_nz T eo k1, ← Int.mul_add] at w1
    exact ⟨_, w1⟩
theorem best_side {keys2 : List α} {nz un : α → α} (T : Twin keys out nz un) {c b b' : Int} (ho : d out = 0) (hk : ∀ q ∈ ws, q.1 ∈ keys ∧ q.2.1 ∈ keys) (hc : 0 < c) (hk2 : ∀ x, x ∈ keys2 ↔ x ∈ keys ∨ ∃ y ∈ keys, x = nz y)
    (h : Best keys d ws out b f) (h' : Best keys2 (two keys un d fun n => c * d n) (ws ++ ws.map (zw nz)) out b' f') : b' = if c * b > b then c * b else b := by
  have eo : d out = (fun n => c * d n) out := by dsimp only; rw [ho, Int.mul_zero]
  have u1 : ∀ b2, b ≤ b2 → c * b ≤ b2 → b' ≤ b2 := fun b2 g1 g2 => h'.least _ _ (h.good.both T ho hk hc g1 g2) fun n hn => by
    rcases (hk2 n).mp hn with hn | ⟨y, hy, rfl⟩
    · rw [two_in hn]; have := h.dle n hn; omega
    · rw [two_nz T eo hy]
      have := Int.mul_le_mul_of_nonneg_left (h.dle y hy) (Int.le_of_lt hc)
      omega
  have l1 : b ≤ b' := by
    refine h.least f' b' ⟨fun q hq => h'.good.1 q (List.mem_append_left _ hq), fun u p z hh D w l => h'.good.2 _ _ _ _ _ ((w.congr hk fun n hn => (two_in hn).symm).left) l⟩ fun n hn => ?_
    have := h'.dle n ((hk2 n).mpr (.inl hn))
    rw [two_in hn] at this
    exact this
  have l2 : c * b ≤ b' := by
    have h2 : b ≤ b' / c := h.least (fun x => f' (nz x)) (b' / c) ⟨fun q hq => ?_, fun u p z hh D w l => ?_⟩ fun n hn => ?_
    · have h3 := (Int.le_ediv_iff_mul_le hc).mp h2
      rw [Int.mul_comm] at h3
      exact h3
    · exact h'.good.1 (zw nz q) (List.mem_append_right _ (List.mem_map.mpr ⟨q, hq, rfl⟩))
    · obtain ⟨p', w'⟩ := w.twin T (c := c) ho hk
      have := (Int.ediv_lt_iff_lt_mul hc).mp l
      rw [Int.mul_comm] at this
      exact h'.good.2 _ _ _ _ _ w' this
    · refine (Int.le_ediv_iff_mul_le hc).mpr ?_
      have := h'.dle (nz n) ((hk2 _).mpr (.inr ⟨n, hn, rfl⟩))
      rw [two_nz T eo hn] at this
      rw [Int.mul_comm]; exact this
  split
  · have := u1 (c * b) (by omega) (by omega); omega
  · have := u1 b (by omega) (by omega); omega
theorem rank_side {nz un : α → α} (T : Twin keys out nz un) {rank : α → Nat} (hk : ∀ q ∈ ws, q.1 ∈ keys ∧ q.2.1 ∈ keys) (hr : ∀ b n, Zr ws out (fun _ => 0) b n → rank b < rank n) :
    ∀ b n, Zr (ws ++ ws.map (zw nz)) out (fun _ => 0) b n → two keys un rank rank b < two keys un rank rank n := by
  rintro b n ⟨q, hq, rfl, rfl, e, e1, e2⟩
  rcases List.mem_append.mp hq with hq | hq
  · obtain ⟨k1, k2⟩ := hk q hq
    rw [two_in k1, two_in k2]
    exact hr _ _ ⟨q, hq, rfl, rfl, e, e1, e2⟩
  · obtain ⟨q0, h0, rfl⟩ := List.mem_map.mp hq
    obtain ⟨k1, k2⟩ := hk q0 h0
    have e1' : nz q0.1 ≠ out := e1
    have e2' : nz q0.2.1 ≠ out := e2
    show two keys un rank rank (nz q0.1) < two keys un rank rank (nz q0.2.1)
    rw [two_nz T rfl k1, two_nz T rfl k2]
    rw [rg0] at e
    exact hr _ _ ⟨q0, h0, rfl, rfl, by rw [rg0]; exact e, fun z => e1' ((nz_ne T k1).mpr z), fun z => e2' ((nz_ne T k2).mpr z)⟩
theorem rank_less {rank : α → Nat} (hs : ∀ q ∈ ws', ∃ q2 ∈ ws, q2.1 = q.1 ∧ q2.2.1 = q.2.1 ∧ q2.2.2 ≤ q.2.2) (hp : ∀ q ∈ ws, 0 ≤ q.2.2) (hr : ∀ b n, Zr ws out (fun _ => 0) b n → rank b < rank n) : ∀ b n, Zr ws' out (fun _ => 0) b n → rank b < rank n := by
  rintro b n ⟨q, hq, rfl, rfl, e, e1, e2⟩
  obtain ⟨q2, h2, g1, g2, g3⟩ := hs q hq
  have := hp q2 h2
  rw [rg0] at e
  exact hr _ _ ⟨q2, h2, g1, g2, by rw [rg0]; omega, e1, e2⟩
/-- moves that tell the same registers tell the same beat -/
theorem BeatIs.regs (he : ∀ q ∈ ws, rg mv q = rg f q) {r : Option Int} (h : BeatIs keys d ws out mv r) : BeatIs keys d ws out f r := by
  have e2 : Zr ws out mv = Zr ws out f := by
    funext b n
    refine propext ⟨fun ⟨q, hq, a, b, c, e⟩ => ⟨q, hq, a, b, by rw [← he q hq]; exact c, e⟩, fun ⟨q, hq, a, b, c, e⟩ => ⟨q, hq, a, b, by rw [he q hq]; exact c, e⟩⟩
  cases r with
  | none =>
    rcases h with ⟨q, hq, hn⟩ | hR
    · exact .inl ⟨q, hq, by rw [← he q hq]; exact hn⟩
    · rw [e2] at hR; exact .inr hR
  | some m =>
    obtain ⟨h1, S, rank, h2, h3, h4⟩ := h
    rw [e2] at h2 h3
    exact ⟨fun q hq => by rw [← he q hq]; exact h1 q hq, S, rank, h2, h3, h4⟩
end
end PN
namespace PN
open PySem PySem.Spec PyProof.Rows L2
theorem cut_take (xs : List V) (g : Nat) : cutV xs none (some (g : Int)) = xs.take g := by
  unfold cutV
  rw [HT.sIx_none, HT.sIx_nat, List.drop_zero, Nat.sub_zero]
  by_cases h : g ≤ xs.length
  · rw [Nat.min_eq_left h]
  · rw [Nat.min_eq_right (by omega), List.take_length, List.take_of_length_le (by omega)]
theorem fmod_rng {a b : Int} (h : 0 < b) : 0 ≤ a.fmod b ∧ a.fmod b < b := by
  rw [Int.fmod_eq_emod_of_nonneg _ (Int.le_of_lt h)]
  exact ⟨Int.emod_nonneg _ (Int.ne_of_gt h), Int.emod_lt_of_pos _ h⟩
theorem dp_ints {K : PySem.W.Frag} {H : Hp} : ∀ ns : List Int, DpAll K H (ns.map V.int) (ns.map PyData.int)
  | [] => .nil
  | n :: ns => .cons (.int n) (dp_ints ns)
theorem shaped_ints (ns : List Int) : SeqAt.shaped (.list (ns.map PyData.int)) = true := by
  have h1 : PyData.canLayAll0 (ns.map PyData.int) = true := by
    induction ns with
    | nil => rfl
    | cons n ns ih => rw [List.map_cons]; unfold PyData.canLayAll0; rw [ih]; rfl
  have h2 : PyData.depthAll (ns.map PyData.int) ≤ 1 := by
    clear h1
    induction ns with
    | nil => exact Nat.zero_le _
    | cons n ns ih =>
      rw [List.map_cons]; unfold PyData.depthAll
      have : (PyData.int n).depth = 0 := rfl
      rw [this]; omega
  unfold SeqAt.shaped PyData.canLay0 PyData.depth
  rw [h1, Bool.true_and]
  exact decide_eq_true (by omega)
theorem eqv_empty (ds : List PyData) : PyData.eqv (.list ds) (.list []) = ds.isEmpty := by
  cases ds <;> rfl
section
variable {P : Program} {w : World} {K : PySem.W.Frag} {mg : Str → Option Value} {base : Heap} 
/-! ### _law_draw -/
def spDraw (K : PySem.W.Frag) : Sp := fun vs H Q _ => ∃ (a : Addr) (ns : List Int) (n m : Int), vs = [.ref a, .int n, .int m] ∧ SqL K H a (ns.map V.int) ∧ ns.length ≤ 63 ∧ 0 ≤ n ∧ n ≤ 100000 ∧ 1 ≤ m ∧ m ≤ 1099511627776 ∧ ∀ H' r, Same H H' → 0 ≤ r → r < m → Q (.int r) H'
theorem scDraw : FnScope ["script", "at", "many", "row", "cell", "turn", "step", "mixed"] ["script", "at", "many"] (defScope sDraw) := ⟨rfl, rfl, rfl, by decide +kernel, rfl, by decide +kernel, by decide +kernel⟩
theorem ok_draw {f : Addr} {fd : FuncData} (F : Fun K "_law_draw" "_law_draw" sDraw f fd) (T : Txt K mg) : FnOk P w K mg base CX0 1 f fd ["script", "at", "many"] (spDraw K) := by
  refine F.ok scDraw (fun vs H Q E h => ?_) (fun cdv A outer s H vs Q E hr h => ?_)
  · obtain ⟨a, ns, n, m, rfl, _⟩ := h
    rfl
  · obtain ⟨a, ns, n, m, rfl, hS, hlen, n0, n1, m0, m1, k⟩ := h
    have nd := scDraw.nd
    refine ⟨_, Evl.pss_cut (ps_set (i := 3) nd rfl (.inl rfl) (pe_ifExp (pt_cmpR (neDK K hr.units) (pv 0) (plst pa_nil) (nomark _)) (pe_slice sl_list (pv 0) po_none (po_some pe_int)) (plst (pa_cons pe_int pa_nil))))
      (pss_cons (ps_par (i := 4) (j := 5) (by rfl) nd rfl rfl (by decide) rfl rfl (pa_cons (pe_ix (ixL K) (pv 3) (pe_op op_modN (pv 1) (pe_callB call_len_seq (by rfl) T.len (by decide +kernel) (pa_cons (pv 3) pa_nil))) (fun _ _ => rfl))
          (pa_cons (pe_op op_fdivN (pv 1) (pe_callB call_len_seq (by rfl) T.len (by decide +kernel) (pa_cons (pv 3) pa_nil))) pa_nil)) (by rfl))
      (pss_cons (ps_if (pt_cmpR op_ge (pv 4) (pe_op op_pow pe_int pe_int) (nomark _))
        (pss_cons (ps_set (i := 4) nd rfl (.inl rfl) (pe_op op_modN (pe_callTy call_int1 (by rfl) T.int (by decide +kernel) (pa_cons (pv 4) pa_nil)) (pe_op op_pow pe_int pe_int)))
        (pss_cons (ps_for PassesOwn.never rfl (pi_range1 rfl T.range (pa_cons (pe_op op_modN (pv 5) pe_int) pa_nil)) (pg_name (i := 6) nd rfl (.inl rfl)) (pss_one (ps_set (i := 4) nd rfl (.inl rfl) (pe_op op_fdivN (pv 4) pe_int))))
        (pss_one (ps_ret (pe_op op_modN (pe_op op_modN (pe_callTy call_int1 (by rfl) T.int (by decide +kernel) (pa_cons (pv 4) pa_nil)) pe_int) (pv 2)))))) pss_nil)
      (pss_cons (ps_set (i := 7) nd rfl (.inl rfl) (pe_op op_add (pe_op op_mul (pe_op op_add (pe_op op_add (pe_op op_modN (pe_callTy call_int1 (by rfl) T.int (by decide +kernel) (pa_cons (pe_op op_add (pv 4) (pe_op op_mul pe_int (pv 5))) pa_nil)) pe_int) (pe_op op_mul pe_int (pv 1))) pe_int) pe_int)
          (pe_op op_modN (pe_callTy call_int1 (by rfl) T.int (by decide +kernel) (pa_cons (pe_op op_fdivN (pv 4) pe_int) pa_nil)) pe_int)))
      (pss_one (ps_ret (pe_op op_modN (pe_callTy call_int1 (by rfl) T.int (by decide +kernel) (pa_cons (pe_op op_modN (pe_op op_mul (pe_op op_modN (pv 7) pe_int) pe_int) pe_int) pa_nil)) (pv 2))))))), ?_⟩
    have fin : ∀ (x : Int) H', Same H H' → Q (.int (x.fmod m)) H' := fun x H' s => k H' _ s (fmod_rng (by omega)).1 (fmod_rng (by omega)).2
    refine ⟨fun σ' H' => ∃ (p : Addr) (rs : List Int), σ' = [some (.ref a), some (.int n), some (.int m), some (.ref p), none, none, none, none] ∧ Same H H' ∧ H' p = some (.lst (rs.map V.int)) ∧ rs ≠ [] ∧ rs.length ≤ 63, ?_, ?_⟩
    · refine ⟨_, rfl, ?_⟩
      refine rd_l0 fun p1 H1 np1 s1 h1 => ?_
      refine ⟨.list (ns.map PyData.int), .list [], .lst (s1.seq hS) (dp_ints ns), .lst (SqL.of h1) .nil, shaped_ints ns, shaped_ints [], _, rfl, ?_⟩
      rw [eqv_empty]
      cases hns : ns with
      | nil =>
        refine iteF ?_
        refine rd_l1 fun p2 H2 np2 s2 h2 => ?_
        exact ⟨p2, [7], rfl, s1.trans s2, h2, by simp, by decide⟩
      | cons n0' ns' =>
        refine iteT ?_
        refine ⟨_, rfl, _, rfl, a, ns.map V.int, rfl, s1.seq hS, fun p2 np2 => ?_⟩
        have s2 := same_upd (o := HO.lst (cutV (ns.map V.int) none (some 60))) np2
        refine ⟨p2, ns.take 60, rfl, s1.trans s2, ?_, ?_, ?_⟩
        · rw [upd_same]
          have := cut_take (ns.map V.int) 60
          rw [show ((60 : Nat) : Int) = 60 from rfl] at this
          rw [this, ← List.map_take]
        · rw [hns]; simp
        · rw [List.length_take]; omega
    · rintro σ' H1 ⟨p, rs, rfl, s1, hp, hne, hrl⟩
      have hpos : 0 < rs.length := List.length_pos_iff.mpr hne
      have hL : (rs.map V.int).length = rs.length := List.length_map _
      obtain ⟨f0, f1⟩ := fmod_rng (a := n) (b := (rs.length : Int)) (by omega)
      obtain ⟨j, hj⟩ := Int.eq_ofNat_of_zero_le f0
      have hjl : j < rs.length := by omega
      obtain ⟨cell, hat⟩ : ∃ cell : Int, atI (rs.map V.int) (n.fmod (rs.length : Int)) = some (.int cell) := ⟨rs[j], by
        rw [hj]
        refine atI_nat ?_
        rw [List.getElem?_map, List.getElem?_eq_getElem hjl]; rfl⟩
      refine ⟨_, rfl, _, rfl, _, rfl, p, _, rfl, .inl (SqL.of hp), ?_⟩
      rw [hL]
      refine ⟨_, _, rfl, rfl, by omega, p, _, _, _, rfl, rfl, SqL.of hp, hat, ?_⟩
      refine ⟨_, rfl, _, rfl, p, _, rfl, .inl (SqL.of hp), ?_⟩
      rw [hL]
      refine ⟨_, _, rfl, rfl, ⟨by omega, by omega⟩, _, _, rfl, ?_⟩
      refine ⟨_, rfl, _, _, rfl, rfl, ⟨by decide, by decide, by decide⟩, _, _, rfl, rfl, _, rfl, ?_⟩
      by_cases hc : (10 : Int) ^ (18 : Int).toNat ≤ cell
      · rw [decide_eq_true hc]
        refine iteT ?_
        refine ⟨_, rfl, .inl ⟨_, rfl, _, _, rfl, rfl, ⟨by decide, by decide, by decide⟩, _, _, rfl, rfl, (show ((97 : Int) ^ (40 : Int).toNat) ≠ 0 by decide +kernel), ?_⟩⟩
        obtain ⟨g0, g1⟩ := fmod_rng (a := n.fdiv (rs.length : Int)) (b := 40) (by decide)
        refine ⟨_, rfl, _, _, rfl, rfl, (show (40 : Int) ≠ 0 by decide), _, rfl, by omega, by omega, ?_⟩
        refine for_range (n := ((n.fdiv (rs.length : Int)).fmod 40).toNat) (fun _ σ' H' => H' = H1 ∧ ∃ (c : Int) (v6 : Option V), σ' = [some (.ref a), some (.int n), some (.int m), some (.ref p), some (.int c), some (.int (n.fdiv (rs.length : Int))), v6, none])
          ⟨rfl, _, none, rfl⟩ ?_ ?_
        · rintro i σ' H' hi ⟨rfl, c, v6, rfl⟩
          refine ⟨_, rfl, _, _, rfl, rfl, ⟨by decide, by decide⟩, ?_⟩
          exact ⟨rfl, _, _, rfl⟩
        · rintro σ' H' ⟨rfl, c, v6, rfl⟩
          refine ⟨_, rfl, .inl ⟨_, rfl, _, _, rfl, rfl, (show (97 : Int) ≠ 0 by decide), _, rfl, _, _, rfl, rfl, (show m ≠ 0 by omega), ?_⟩⟩
          exact fin _ _ s1
      · rw [decide_eq_false hc]
        refine iteF ?_
        refine ⟨_, rfl, _, rfl, _, _, rfl, rfl, .inl ⟨by decide, by decide⟩, _, _, rfl, rfl, .inl ⟨_, rfl, _, _, rfl, rfl, (show (1000003 : Int) ≠ 0 by decide), _, rfl, _, _, rfl, rfl, .inl ⟨by decide, by decide⟩, _, _, rfl, rfl, _, _, rfl, rfl, _, _, rfl, rfl, .inr ⟨by decide, by decide⟩, ?_⟩⟩
        refine ⟨_, rfl, _, _, rfl, rfl, ⟨by decide, by decide⟩, .inl ⟨_, rfl, _, _, rfl, rfl, (show (999983 : Int) ≠ 0 by decide), _, _, rfl, rfl, ?_⟩⟩
        refine ⟨_, rfl, _, _, rfl, rfl, (show (2147483647 : Int) ≠ 0 by decide), _, _, rfl, rfl, .inr ⟨by decide, by decide⟩, _, _, rfl, rfl, (show (4294967291 : Int) ≠ 0 by decide), .inl ⟨_, rfl, _, rfl, _, _, rfl, rfl, (show m ≠ 0 by omega), ?_⟩⟩
        exact fin _ _ s1
end
end PN
/-! list(text), enumerate(text) -/
namespace LayT
open PySem PySem.Spec PyProof.Rows L2
section
variable {prog : Program} {w : World} {A : Around} {E : Value → Shared → Prop} {s : Shared}
theorem extend_str {R : Result → Shared → Prop} (hh : A.handled = none) (x : Str) (t : Tok) (S : Addr) (res : Value) (c : Nat) (hS : s.heap.get? S = some { cls := .type "list", dict := none, data := .seq #[] c, slots := #[] })
    (hR : ∀ h' tk acc' c', (∀ b o, b ≠ S → s.heap.get? b = some o → h'.get? b = some o) → h'.get? S = some { cls := .type "list", dict := none, data := .seq acc' c', slots := #[] } →
      ItemsOf (SignAt x) acc' x.cps.size → R (.ok (.ret res)) { s with heap := h', toks := tk }) (hn : x.cps.size ≤ sizeLine) :
    wpAny (model prog w) A.in1 (Builtin.List.listExtendWith (.ref S) (.str x t) res)
      (fun fin s' => match fin with | .done f => R (.ok f) s' | .again c' => c'.quiet = true ∧ codeAny (model prog w) A c' R s') (fun e s' => R (.error e) s') s := by
  have hSI : S ≠ s.heap.objs.size := Nat.ne_of_lt (Heap.lt_size hS)
  have hSf : S ∉ [s.heap.objs.size] := fun hm => hSI (List.mem_singleton.mp hm)
  unfold Builtin.List.listExtendWith
  refine wpAny_bind (wpAny_typeOf (T := "str") (v := .str x t) rfl ?_)
  have h1 : Builtin.List.listSameRef (.ref S) (.str x t) = false := rfl
  have h2 : (Value.type "str" == Value.type "list") = false := by decide
  have h3 : (Value.type "str" == Value.type "tuple") = false := by decide
  simp only [h1, h2, h3, Bool.or_false, Bool.false_eq_true, if_false]
  refine wpAny_bind (wpAny_pyIter_str fun o St W hst => ?_)
  refine wpAny_bind (wpAny_holding ?_)
  unfold Builtin.List.listLengthHint
  refine wpAny_bind (wpAny_specialOf (T := "str") (v := .str x t) rfl PySem.F.str_len ?_)
  wp_delta
  refine wpAny_bind (wpAny_isInstance (T := "str") (v := .str x t) (b := true) rfl (by rw [isSubtype_type]; kernel_rfl) ?_)
  show wpAny _ A.in1 (typeOf (Value.str x t) >>= _) _ _ _
  refine wpAny_bind (wpAny_typeOf (T := "str") (v := .str x t) rfl ?_)
  refine wpAny_pure ?_
  rw [if_neg (by decide)]
  have hS2 : (s.heap.push o).get? S = some { cls := .type "list", dict := none, data := .seq #[] c, slots := #[] } := Heap.get?_push_of_some _ hS
  refine wpAny_pure ⟨plainId_quiet F.plain_extend_loop _, codeAny_extend_loopS (W A.in1 hh).toS hn _ hSf _ x.cps.size 0 _ _ _ rfl (Nat.zero_le _) hst hS2 (ItemsOf.nil _) fun s' acc' c' hm hS' hacc => ?_⟩
  rw [Moved.eq_with hm]
  refine hR s'.heap s'.toks acc' c' (fun b ob hb e => hm.heap b ob (fun hmem => ?_) (Heap.get?_push_of_some _ e)) hS' hacc
  rcases List.mem_cons.mp hmem with e' | hmem
  · exact hb e'
  · exact absurd (Heap.lt_size e) (by rw [List.mem_singleton.mp hmem]; exact Nat.lt_irrefl _)
theorem list_init_str {R : Result → Shared → Prop} (hh : A.handled = none) (x : Str) (t : Tok) (S : Addr) (hS : s.heap.get? S = some { cls := .type "list", data := .seq #[] })
    (hR : ∀ h' tk acc' c', (∀ b o, b ≠ S → s.heap.get? b = some o → h'.get? b = some o) → h'.get? S = some { cls := .type "list", dict := none, data := .seq acc' c', slots := #[] } →
      ItemsOf (SignAt x) acc' x.cps.size → R (.ok (.ret .none)) { s with heap := h', toks := tk }) (hn : x.cps.size ≤ sizeLine) :
    wpAny (model prog w) A.in1 (Builtin.«list.__init__» ⟨[.ref S, .str x t], []⟩)
      (fun fin s' => match fin with | .done f => R (.ok f) s' | .again c' => c'.quiet = true ∧ codeAny (model prog w) A c' R s') (fun e s' => R (.error e) s') s := by
  show wpAny _ _ (do let old ← Builtin.List.listItems (.ref S); Builtin.List.listUpdate (.ref S) (fun _ => #[]); letGo old.toList.reverse; Builtin.List.listExtendWith (.ref S) (.str x t) .none) _ _ s
  refine wpAny_bind ?_
  unfold Builtin.List.listItems
  refine wpAny_bind (wpAny_seqItems hS rfl (wpAny_pure ?_))
  show wpAny _ _ (updateSeq S (fun _ => #[]) >>= fun _ => letGo (#[] : Array Value).toList.reverse >>= fun _ => Builtin.List.listExtendWith (.ref S) (.str x t) .none) _ _ s
  refine wpAny_bind (wpAny_updateSeq hS rfl ?_)
  have hS₂ := Heap.get?_update_self (Obj.mapSeq (fun _ => (#[] : Array Value))) hS rfl
  have oth : ∀ b o, b ≠ S → s.heap.get? b = some o → (s.heap.update S (Obj.mapSeq (fun _ => (#[] : Array Value)))).get? b = some o :=
    fun b o hb e => (Heap.get?_update_other _ _ (Ne.symm hb)).trans e
  refine wpAny_bind (wpAny_letGo ?_)
  refine extend_str hh x t S .none _ hS₂ (fun h' tk acc' c' hk hS' hacc => ?_) hn
  exact hR h' tk acc' c' (fun b o hb e => hk b o hb (oth b o hb e)) hS' hacc
theorem call_list_str {x : Str} {t : Tok} {Q : Value → Shared → Prop} (hh : A.handled = none) (hn : x.cps.size ≤ sizeLine)
    (hQ : ∀ h' tk acc' c', (∀ b o, s.heap.get? b = some o → h'.get? b = some o) →
      h'.get? s.heap.objs.size = some { cls := .type "list", dict := none, data := .seq acc' c', slots := #[] } → ItemsOf (SignAt x) acc' x.cps.size → Q (.ref s.heap.objs.size) { s with heap := h', toks := tk }) :
    wpAny (model prog w) A (call (.type "list") [.str x t]) Q E s := by
  refine callType_codes (Q₁ := fun obj s₁ => obj = .ref s.heap.objs.size ∧ s₁ = { s with heap := s.heap.push { cls := .type "list", data := .seq #[] } }) PySem.F.called_list (PySem.F.typeCall_list_1 _) PySem.F.entry_list_init
    (code_list_new _ ⟨rfl, rfl⟩) fun obj s₁ h₁ => ?_
  obtain ⟨rfl, rfl⟩ := h₁
  have hS : (s.heap.push { cls := .type "list", data := .seq #[] }).get? s.heap.objs.size = some { cls := .type "list", data := .seq #[] } := Heap.get?_push_size _ rfl
  refine ⟨⟨_, hS, rfl⟩, PySem.F.args_list_init_2 _ _, list_init_str (A := A.in1) hh x t _ hS (fun h' tk acc' c' hk hS' hacc => ?_) hn⟩
  exact ⟨rfl, hQ h' tk acc' c' (fun b o e => hk b o (Nat.ne_of_lt (Heap.lt_size e)) (Heap.get?_push_of_some _ e)) hS' hacc⟩
end
/-- the signs of a text, each a text -/
def sgs (x : Str) : List Str := x.cps.toList.map fun c => (⟨#[c]⟩ : Str)
theorem sgs_at {x : Str} {i : Nat} {c : Nat} (h : x.cps[i]? = some c) : (sgs x)[i]? = some (⟨#[c]⟩ : Str) := by
  unfold sgs
  rw [List.getElem?_map, Array.getElem?_toList, h]; rfl
theorem cr_listS {X : Cx} (hc : X.calm = true) : CallR X (.type "list") (fun xs H Q => ∃ x, xs = [.str x] ∧ x.cps.size ≤ sizeLine ∧ ∀ l, H l = none → Q (.ref l) (upd H l (.lst ((sgs x).map V.str)))) := by
  intro pins s σ H xs us Q I r ⟨x, ex, hz, q⟩
  subst ex
  obtain ⟨u, rfl, ru⟩ := vals1 r
  obtain ⟨t, rfl⟩ := ru
  refine call_list_str (I.ok.hd hc) hz fun h' tk acc c' hk e hi => ?_
  refine ⟨.ref s.heap.objs.size, upd H s.heap.objs.size (.lst ((sgs x).map V.str)), I.laid hk (Nat.le_refl _) ⟨by rw [List.length_map, sgs, List.length_map, Array.length_toList]; exact hz, acc.toList, c', ?_, by rw [Array.toArray_toList]; exact e⟩, rfl, q _ (I.hok.fresh (Nat.le_refl _))⟩
  refine vals_of_idx _ _ (by rw [List.length_map, sgs, List.length_map, Array.length_toList, Array.length_toList]; exact hi.1) fun j u hj => ?_
  obtain ⟨c, t', hc, rfl⟩ := hi.2 j u (by rw [← Array.getElem?_toList]; exact hj)
  exact ⟨.str ⟨#[c]⟩, by rw [List.getElem?_map, sgs_at hc]; rfl, ⟨_, rfl⟩⟩
/-! ### enumerate(a text) -/
def Itex (z : Str) : It :=
  ⟨fun i H => i < z.cps.size, fun i H v H' => ∃ T c, z.cps[i]? = some c ∧ v = .ref T ∧ H T = none ∧ H' = upd H T (.tup [.int (i : Nat), .str ⟨#[c]⟩]), fun i H => z.cps.size = i⟩
theorem turn_enumS {P : Program} {w : World} {K : PySem.W.Frag} {elts : List Expr} {kk : Nat} {tpos : Pos} (z : Str) (t : Tok) (e it : Addr) :
    Turn P w K (.Tuple elts kk tpos) (Itex z) [e, it] e (fun i h => (∃ old, IsEnum h e it ((i : Nat) : Int) old) ∧ h.IsStrIter it (strIterType z) z t i ∧ e ≠ it) where
  mem := List.mem_cons_self
  obj := fun i h ⟨⟨old, he⟩, ⟨o, ho, hc, hd⟩, _⟩ b hb => by
    rcases List.mem_cons.mp hb with z | z
    · subst z
      exact ⟨_, he, fun v q => nomatch q⟩
    · rw [List.mem_singleton.mp z]
      exact ⟨o, ho, fun v q => by rw [hd] at q; cases q⟩
  keep := fun i h h' ⟨⟨old, he⟩, ⟨o, ho, r⟩, n⟩ k => ⟨⟨old, k e List.mem_cons_self _ he⟩, ⟨o, k it (List.mem_cons_of_mem _ List.mem_cons_self) o ho, r⟩, n⟩
  item := by
    rintro X rfl rfl rfl hcalm i pins s σ H E I hf ⟨⟨old, he⟩, hit, n1⟩ hlt
    have lte : e < s.heap.objs.size := Heap.lt_size he
    have lti : it < s.heap.objs.size := by obtain ⟨_, q, _⟩ := hit; exact Heap.lt_size q
    have hh : X.A.in1.handled = none := I.ok.hd hcalm
    refine wpAny_pyNext_enum_itemD (Draws.text (A := X.A.in1) hh it z t) he hit hlt n1 (fun q => n1 (List.mem_singleton.mp q)) fun y h' tk hy ho hst' hT hsz hk => ?_
    obtain ⟨c, u, hcx, rfl⟩ := hy
    refine ⟨_, rfl, wpAny_letOwnedTupleGo_enum (s := { s with heap := h', toks := tk + 1 }) ho fun h2 he2 sb => ?_⟩
    have hT2 := (sb.2 s.heap.objs.size (Nat.ne_of_gt lte)).trans hT
    have new : ObjOk X.prog X.w (upd H s.heap.objs.size (.tup [.int (i : Nat), .str ⟨#[c]⟩])) h2 s.heap.objs.size (.tup [.int (i : Nat), .str ⟨#[c]⟩]) :=
      ⟨Nat.le_trans (show 2 ≤ 100000 by decide) (by decide), [.int i tk, .str ⟨#[c]⟩ u], .cons ⟨_, rfl⟩ (.cons ⟨_, rfl⟩ .nil), ⟨_, hT2, rfl, _, rfl⟩⟩
    have ne2 : ∀ b, b ∉ [e, it] → b ≠ e ∧ b ≠ it := fun b hb => ⟨fun z => hb (by rw [z]; exact List.mem_cons_self), fun z => hb (by rw [z]; exact List.mem_cons_of_mem _ List.mem_cons_self)⟩
    have J := I.turnedNew (t' := tk + 1) (h' := h2) (ch := [e, it]) (fun b ob hb q => (sb.2 b (ne2 b hb).1).trans (hk b ob (ne2 b hb).1 (ne2 b hb).2 q)) hf (Nat.le_refl _) new
    refine ⟨.ref s.heap.objs.size, _, J, rfl, ⟨_, c, hcx, rfl, I.hok.fresh (Nat.le_refl _), rfl⟩, ⟨⟨Value.str ⟨#[c]⟩ u, ?_⟩, ?_, n1⟩, fun b hb => ?_⟩
    · rw [show ((i + 1 : Nat) : Int) = (i : Int) + 1 by omega]
      exact he2
    · obtain ⟨o3, ho3, r3⟩ := hst'
      exact ⟨o3, (sb.2 it n1.symm).trans ho3, r3⟩
    · have lt2 : b < s.heap.objs.size := by
        rcases List.mem_cons.mp hb with z | z
        · rw [z]; exact lte
        · rw [List.mem_singleton.mp z]; exact lti
      rw [upd_ne (Nat.ne_of_lt lt2)]
      exact (hf b hb).1
  done := by
    rintro X rfl rfl rfl hcalm i pins s σ H E I hf ⟨⟨old, he⟩, hit, n1⟩ ei
    have hh : X.A.in1.handled = none := I.ok.hd hcalm
    obtain ⟨f0, f1, f2, f3, f4, f5⟩ := hf it (List.mem_cons_of_mem _ List.mem_cons_self)
    exact wpAny_pyNext_enum_endD (Draws.text (A := X.A.in1) hh it z t) he (by rw [show z.cps.size = i from ei]; exact hit) fun h' eb => ⟨rfl, I.turned (t' := s.toks) (fun b o hb q => eb b o hb q) f0 f1 f3 f4 f5⟩
  self := fun A i s Q E ⟨⟨_, he⟩, _⟩ h => wpAny_pyIter_enum he h
def iEnumS (ta : TA) : TI := fun σ H R => ta σ H fun vs H1 => ∃ z, vs = [.str z] ∧ R (Itex z) H1
theorem pi_enumS {X : Cx} {e : Expr} {ta : TA} {p pos tpos : Pos} {elts : List Expr} {kk : Nat} (hg : Gl X "enumerate") (hm : X.mg "enumerate" = none) (ha : PA X [e] ta) (hs : starEach [e] X.env = [(false, eval e X.env)] := by rfl) :
    PI X (.Tuple elts kk tpos) (.Call (.Name "enumerate" p) [e] [] pos) (iEnumS ta) := by
  refine ⟨fun pins s σ H R I h => ?_⟩
  refine Call_ (ld_blt I hg hm boot_enumerate (PyProof.Rows.callWith_type1 (thn (ha.run pos pins s σ H _ I h) fun us s1 ⟨vs, H1, I1, r1, z, ex, q⟩ => ?_) hs rfl))
  subst ex
  obtain ⟨u, rfl, ru⟩ := vals1 r1
  obtain ⟨t, rfl⟩ := ru
  refine call_enum1 (begins_text z t) True.intro fun h' he hit kp => wpAny_pyIter_enum he ?_
  have I2 : Inv X pins σ H1 { s1 with heap := h' } := I1.kept (t' := s1.toks) kp
  refine ⟨s1.heap.objs.size + 1, [s1.heap.objs.size + 1, s1.heap.objs.size], _, _, H1, rfl, I2, turn_enumS z t (s1.heap.objs.size + 1) s1.heap.objs.size, ⟨⟨.none, he⟩, ⟨_, hit, rfl, rfl⟩, Nat.succ_ne_self _⟩, fun b hb => ?_, q⟩
  have le : s1.heap.objs.size ≤ b := by
    rcases List.mem_cons.mp hb with z | z
    · rw [z]; exact Nat.le_succ _
    · rw [List.mem_singleton.mp z]; exact Nat.le_refl _
  exact I1.fpOk le (I1.hok.fresh le)
theorem walk_enumS {z : Str} : Walk (Itex z) z.cps.size (fun _ => True) (YPair (fun i => some (.int (i : Nat))) (fun i => z.cps[i]?.map fun c => V.str ⟨#[c]⟩)) :=
  ⟨fun i _ hi q => hi, fun _ q => rfl, fun i H v H' _ q ⟨T, c, h1, h2, h3, h4⟩ => ⟨T, .int (i : Nat), .str ⟨#[c]⟩, h2, h3, h4, rfl, by dsimp only; rw [h1]; rfl⟩⟩
end LayT
namespace PN
open PySem PySem.Spec PyProof.Rows L2 LayT
def rDictP (K : PySem.W.Frag) : List V → Hp → VK → Prop := fun xs H Q => ∃ (a : Addr) (ps : List Addr) (kvs : List (Key × V)), xs = [.ref a] ∧ SqL K H a (ps.map V.ref) ∧ Paired (fun p kv => SqT K H p [kV kv.1, kv.2]) ps kvs ∧ ∀ p, H p = none → Q (.ref p) (upd H p (.dK (mergeK [] kvs)))
theorem dictPK {X : Cx} (K : PySem.W.Frag) (hc : X.calm = true := by rfl) (h : X.K = K := by rfl) : CallR X (.type "dict") (rDictP K) := h ▸ call_dictP hc
theorem merge_kN : ∀ (l2 l1 : List Str) (d : Str → Int), (l1 ++ l2).Nodup → mergeK (kN l1 d) (kN l2 d) = kN (l1 ++ l2) d
  | [], l1, d, _ => by rw [List.append_nil]; rfl
  | n :: l2, l1, d, h => by
    show mergeK (putK (kN l1 d) (Sum.inr n) (.int (d n))) (kN l2 d) = _
    have h2 : (l1 ++ [n] ++ l2).Nodup := by rw [List.append_assoc]; exact h
    have hn : n ∉ l1 := fun z => by
      rw [List.nodup_append] at h
      exact h.2.2 n z n List.mem_cons_self rfl
    rw [kN_new hn rfl, merge_kN l2 (l1 ++ [n]) d h2, List.append_assoc]
    rfl
theorem paired_idx {α β : Type} {R : α → β → Prop} : ∀ {xs : List α} {ys : List β}, xs.length = ys.length → (∀ (i : Nat) x y, xs[i]? = some x → ys[i]? = some y → R x y) → Paired R xs ys
  | [], [], _, _ => .nil
  | [], _ :: _, h, _ => by simp at h
  | _ :: _, [], h, _ => by simp at h
  | x :: xs, y :: ys, h, k => .cons (k 0 x y rfl rfl) (paired_idx (by simpa using h) fun i a b ha hb => k (i + 1) a b (by simpa using ha) (by simpa using hb))
end PN
namespace PN
/-! ### the law's ring -/
section
variable {α : Type} [DecidableEq α]
abbrev E2 (α : Type) : Type := α × α
def hds (R : List (E2 α)) : List α := R.map (·.2)
def prune (R : List (E2 α)) : List (E2 α) := R.filter fun e => decide (e.1 ∈ hds R)
structure RgI (F R : List (E2 α)) (rk : α → Nat) (t : Nat) : Prop where
  sub : ∀ e ∈ R, e ∈ F
  le : ∀ v, rk v ≤ t
  hd : ∀ v, v ∈ hds R → rk v = t
  out : ∀ e ∈ F, e ∉ R → e.1 ∉ hds R ∧ rk e.1 < rk e.2
theorem RgI.start (F : List (E2 α)) : RgI F F (fun _ => 0) 0 := ⟨fun _ h => h, fun _ => Nat.le_refl _, fun _ _ => rfl, fun e h n => absurd h n⟩
theorem hds_prune {R : List (E2 α)} {v : α} (h : v ∈ hds (prune R)) : v ∈ hds R := by
  obtain ⟨e, he, rfl⟩ := List.mem_map.mp h
  exact List.mem_map.mpr ⟨e, (List.mem_filter.mp he).1, rfl⟩
theorem RgI.next {F R : List (E2 α)} {rk : α → Nat} {t : Nat} (h : RgI F R rk t) : RgI F (prune R) (fun v => if v ∈ hds R then t + 1 else rk v) (t + 1) := by
  refine ⟨fun e he => h.sub e (List.mem_filter.mp he).1, fun v => ?_, fun v hv => ?_, fun e he hn => ?_⟩
  · split
    · exact Nat.le_refl _
    · have := h.le v; omega
  · rw [if_pos (hds_prune hv)]
  · by_cases hR : e ∈ R
    · have h1 : e.1 ∉ hds R := fun z => hn (List.mem_filter.mpr ⟨hR, decide_eq_true z⟩)
      refine ⟨fun z => h1 (hds_prune z), ?_⟩
      rw [if_neg h1, if_pos (show e.2 ∈ hds R from List.mem_map.mpr ⟨e, hR, rfl⟩)]
      have := h.le e.1
      omega
    · obtain ⟨h1, h2⟩ := h.out e he hR
      refine ⟨fun z => h1 (hds_prune z), ?_⟩
      rw [if_neg h1]
      split
      · have := h.le e.1; omega
      · exact h2
theorem prune_len {R : List (E2 α)} : (prune R).length ≤ R.length := List.length_filter_le _ _
theorem prune_full {R : List (E2 α)} (h : (prune R).length = R.length) : prune R = R := by
  unfold prune at h ⊢
  exact List.filter_eq_self.mpr (List.length_filter_eq_length_iff.mp h)
/-- what _law_ring tells -/
def RingB (out : α) (es : List (E2 α)) (b : Bool) : Prop := (b = true → ∃ R : List (E2 α), R ≠ [] ∧ (∀ e ∈ R, e ∈ es ∧ e.1 ≠ out ∧ e.2 ≠ out) ∧ ∀ e ∈ R, ∃ e' ∈ R, e'.2 = e.1) ∧ (b = false → ∃ rank : α → Nat, ∀ e ∈ es, e.1 ≠ out → e.2 ≠ out → rank e.1 < rank e.2)
def inner (out : α) (es : List (E2 α)) : List (E2 α) := es.filter fun e => !decide (out = e.1) && !decide (out = e.2)
theorem mem_inner {out : α} {es : List (E2 α)} {e : E2 α} : e ∈ inner out es ↔ e ∈ es ∧ e.1 ≠ out ∧ e.2 ≠ out := by
  unfold inner
  rw [List.mem_filter, Bool.and_eq_true]
  simp only [Bool.not_eq_true', decide_eq_false_iff_not]
  exact ⟨fun ⟨a, b, c⟩ => ⟨a, fun z => b z.symm, fun z => c z.symm⟩, fun ⟨a, b, c⟩ => ⟨a, fun z => b z.symm, fun z => c z.symm⟩⟩
theorem RgI.fin {out : α} {es R : List (E2 α)} {rk : α → Nat} {t : Nat} (h : RgI (inner out es) R rk t) (hp : prune R = R) : RingB out es (!R.isEmpty) := by
  refine ⟨fun e => ⟨R, (fun z => by rw [z] at e; cases e), fun e he => mem_inner.mp (h.sub e he), fun e he => ?_⟩, fun e => ⟨rk, fun x hx h1 h2 => ?_⟩⟩
  · rw [← hp] at he
    have := of_decide_eq_true (List.mem_filter.mp he).2
    obtain ⟨e', he', e2⟩ := List.mem_map.mp this
    exact ⟨e', he', e2⟩
  · have hR : R = [] := by cases R with
      | nil => rfl
      | cons a b => cases e
    exact (h.out x (mem_inner.mpr ⟨hx, h1, h2⟩) (by rw [hR]; exact List.not_mem_nil)).2
end
end PN
namespace PN
open PySem PySem.Spec PyProof.Rows L2 LayT
def EgAt (H : Hp) (x : V) (e : Str × Str) : Prop := ∃ a, x = .ref a ∧ H a = some (.tup [.str e.1, .str e.2])
theorem EgAt.tups {H H' : Hp} {x : V} {e : Str × Str} (h : EgAt H x e) (s : Tups H H') : EgAt H' x e := let ⟨a, h1, h2⟩ := h; ⟨a, h1, s _ _ h2⟩
theorem inV_str {x : Str} {l : List Str} : inV (.str x) (l.map V.str) = decide (x ∈ l) := by
  unfold inV
  rw [List.any_map]
  by_cases h : x ∈ l
  · rw [decide_eq_true h, List.any_eq_true]
    exact ⟨x, h, by show (x == x) = true; simp⟩
  · rw [decide_eq_false h, List.any_eq_false]
    intro y hy
    show ¬ (y == x) = true
    intro z
    exact h ((beq_iff_eq.mp z) ▸ hy)
theorem flat_strs {l : List Str} : (l.map V.str).all flatV = true := by
  rw [List.all_map, List.all_eq_true]
  intro x _
  rfl
theorem inSK {X : Cx} (K : PySem.W.Frag) (h : X.K = K := by rfl) : OpR X (compareOp .In) (rIn K false) := h ▸ op_in_seq
theorem ninSK {X : Cx} (K : PySem.W.Frag) (h : X.K = K := by rfl) : OpR X (compareOp .NotIn) (rIn K true) := h ▸ op_notIn_seq
end PN
namespace PN
/-! ### the law's beat -/
section
variable {α : Type} [DecidableEq α]
structure StpOk (out : α) (dd : α → Int) (best late : α → Int) (B : List (E2 α)) : Prop where
  ge : ∀ v, best v ≤ late v
  up : ∀ e ∈ B, e.1 ≠ out → best e.1 + dd e.2 ≤ late e.2
  eq : ∀ v, late v = best v ∨ ∃ e ∈ B, e.1 ≠ out ∧ e.2 = v ∧ late v = best e.1 + dd v
theorem StpOk.nil {out : α} {dd best : α → Int} : StpOk out dd best best [] := ⟨fun _ => Int.le_refl _, (fun e h => by cases h), fun _ => .inl rfl⟩
theorem StpOk.skip {out : α} {dd best late : α → Int} {B : List (E2 α)} {e : E2 α} (h : StpOk out dd best late B) (he : e.1 = out) : StpOk out dd best late (B ++ [e]) := by
  refine ⟨h.ge, fun x hx hn => ?_, fun v => (h.eq v).imp id fun ⟨x, hx, r⟩ => ⟨x, List.mem_append_left _ hx, r⟩⟩
  rcases List.mem_append.mp hx with hx | hx
  · exact h.up x hx hn
  · rw [List.mem_singleton.mp hx] at hn; exact absurd he hn
theorem StpOk.snoc {out : α} {dd best late : α → Int} {B : List (E2 α)} {e : E2 α} {M : Int} (h : StpOk out dd best late B) (he : e.1 ≠ out) (m1 : late e.2 ≤ M) (m2 : best e.1 + dd e.2 ≤ M) (m3 : M = late e.2 ∨ M = best e.1 + dd e.2) :
    StpOk out dd best (fun x => if x = e.2 then M else late x) (B ++ [e]) := by
  refine ⟨fun v => ?_, fun x hx hn => ?_, fun v => ?_⟩
  · split
    · rename_i c; rw [c]; exact Int.le_trans (h.ge _) m1
    · exact h.ge v
  · rcases List.mem_append.mp hx with hx | hx
    · have := h.up x hx hn
      split
      · rename_i c; rw [c] at this ⊢; omega
      · exact this
    · rw [List.mem_singleton.mp hx]; rw [if_pos rfl]; exact m2
  · by_cases c : v = e.2
    · rw [if_pos c]
      rcases m3 with m3 | m3
      · rw [m3, c]
        exact (h.eq e.2).imp id fun ⟨x, hx, r⟩ => ⟨x, List.mem_append_left _ hx, r⟩
      · exact .inr ⟨e, by simp, he, c.symm, by rw [m3, c]⟩
    · rw [if_neg c]
      exact (h.eq v).imp id fun ⟨x, hx, r⟩ => ⟨x, List.mem_append_left _ hx, r⟩
structure LbI (out : α) (dd best : α → Int) (B : List (E2 α)) : Prop where
  low : ∀ v, dd v ≤ best v
  eq : ∀ v, best v = dd v ∨ ∃ e ∈ B, e.1 ≠ out ∧ e.2 = v ∧ best v ≤ best e.1 + dd v
theorem LbI.start {out : α} {dd : α → Int} {B : List (E2 α)} : LbI out dd dd B := ⟨fun _ => Int.le_refl _, fun _ => .inl rfl⟩
theorem LbI.next {out : α} {dd best late : α → Int} {B : List (E2 α)} (h : LbI out dd best B) (s : StpOk out dd best late B) : LbI out dd late B := by
  refine ⟨fun v => Int.le_trans (h.low v) (s.ge v), fun v => ?_⟩
  rcases s.eq v with e | ⟨x, hx, hn, rfl, e⟩
  · rcases h.eq v with e2 | ⟨x, hx, hn, rfl, e2⟩
    · exact .inl (e.trans e2)
    · refine .inr ⟨x, hx, hn, rfl, ?_⟩
      have := s.ge x.1
      omega
  · refine .inr ⟨x, hx, hn, rfl, ?_⟩
    have := s.ge x.1
    omega
def Zb (out : α) (B : List (E2 α)) (b t : α) : Prop := (b, t) ∈ B ∧ b ≠ out ∧ t ≠ out
/-- with the sums S, by ranks below L -/
structure Hy (out : α) (dd S best : α → Int) (rk : α → Nat) (B : List (E2 α)) (gs : List α) (L t : Nat) : Prop where
  le : ∀ v ∈ gs, best v ≤ S v
  eq : ∀ v ∈ gs, rk v ≤ t → best v = S v
  out : L ≤ t → ∀ e ∈ B, e.1 ≠ out → e.2 = out → S e.1 + dd out ≤ best out
  t : t ≤ L
structure HyS (out : α) (dd S : α → Int) (rk : α → Nat) (B : List (E2 α)) (gs : List α) (L : Nat) : Prop where
  long : ∀ n ∈ gs, LongAt dd (Zb out B) S n
  rkl : ∀ b n, Zb out B b n → rk b < rk n
  top : ∀ n ∈ gs, rk n < L
  ends : ∀ e ∈ B, (e.1 ≠ out → e.1 ∈ gs) ∧ (e.2 ≠ out → e.2 ∈ gs)
  no : out ∉ gs
theorem Hy.start {out : α} {dd S : α → Int} {rk : α → Nat} {B : List (E2 α)} {gs : List α} {L : Nat} (h : HyS out dd S rk B gs L) (hL : 0 < L) : Hy out dd S dd rk B gs L 0 := by
  refine ⟨fun v hv => (h.long v hv).low, fun v hv h0 => ?_, fun z => absurd z (by omega), Nat.zero_le _⟩
  rcases (h.long v hv).eq with e | ⟨b, z, e⟩
  · exact e.symm
  · have := h.rkl b v z; omega
theorem Hy.same {out : α} {dd S best late : α → Int} {rk : α → Nat} {B : List (E2 α)} {gs : List α} {L t : Nat} (h : HyS out dd S rk B gs L) (y : Hy out dd S best rk B gs L t) (s : StpOk out dd best late B) (ht : t = L) : (∀ v ∈ gs, late v = best v) ∧ late out = best out := by
  have hb : ∀ v ∈ gs, best v = S v := fun v hv => y.eq v hv (by have := h.top v hv; omega)
  have hn : ∀ v ∈ gs, v ≠ out := fun v hv e => h.no (e ▸ hv)
  refine ⟨fun v hv => ?_, ?_⟩
  · rcases s.eq v with e | ⟨x, hx, hne, rfl, e⟩
    · exact e
    · have h1 := (h.ends x hx).1 hne
      have h2 := (h.long _ hv).up x.1 ⟨hx, hne, hn _ hv⟩
      have h3 := hb x.1 h1
      have h4 := hb x.2 hv
      have h5 := s.ge x.2
      omega
  · rcases s.eq out with e | ⟨x, hx, hne, e2, e⟩
    · exact e
    · have h1 := (h.ends x hx).1 hne
      have h3 := hb x.1 h1
      have h4 := y.out (by omega) x hx hne e2
      have h5 := s.ge out
      omega
theorem Hy.next {out : α} {dd S best late : α → Int} {rk : α → Nat} {B : List (E2 α)} {gs : List α} {L t : Nat} (h : HyS out dd S rk B gs L) (I : LbI out dd best B) (y : Hy out dd S best rk B gs L t) (s : StpOk out dd best late B) (hne : ¬ ((∀ v ∈ gs, late v = best v) ∧ late out = best out)) : Hy out dd S late rk B gs L (t + 1) := by
  have hn : ∀ v ∈ gs, v ≠ out := fun v hv e => h.no (e ▸ hv)
  have hle : ∀ v ∈ gs, late v ≤ S v := fun v hv => by
    rcases s.eq v with e | ⟨x, hx, hne, rfl, e⟩
    · rw [e]; exact y.le v hv
    · have h1 := (h.ends x hx).1 hne
      have h2 := (h.long _ hv).up x.1 ⟨hx, hne, hn _ hv⟩
      have h3 := y.le x.1 h1
      omega
  refine ⟨hle, fun v hv hr => ?_, fun hL x hx hx1 hx2 => ?_, ?_⟩
  · refine Int.le_antisymm (hle v hv) ?_
    rcases (h.long v hv).eq with e | ⟨b, z, e⟩
    · have h1 := I.low v
      have h2 := s.ge v
      omega
    · have h1 := h.rkl b v z
      have hb := (h.ends _ z.1).1 z.2.1
      have h2 := y.eq b hb (by omega)
      have h3 := s.up _ z.1 z.2.1
      dsimp only at h3
      omega
  · have h1 := (h.ends x hx).1 hx1
    have h2 := h.top x.1 h1
    have h3 := y.eq x.1 h1 (by omega)
    have h4 := s.up x hx hx1
    rw [hx2] at h4
    omega
  · have := y.t
    by_cases e : t = L
    · exact absurd (y.same h s e) hne
    · omega
/-- the fixed sums are S -/
theorem fix_eq {out : α} {dd S best : α → Int} {rk : α → Nat} {B : List (E2 α)} {gs : List α} {L : Nat} (h : HyS out dd S rk B gs L) (I : LbI out dd best B) (hf : ∀ e ∈ B, e.1 ≠ out → best e.1 + dd e.2 ≤ best e.2) : ∀ v ∈ gs, best v = S v := by
  have hl : ∀ n ∈ gs, LongAt dd (Zb out B) best n := fun n hn => ⟨fun b z => hf _ z.1 z.2.1, I.low n, by
    rcases I.eq n with e | ⟨x, hx, hne, rfl, e⟩
    · exact .inl e
    · refine .inr ⟨x.1, ⟨hx, hne, fun z => h.no (z ▸ hn)⟩, ?_⟩
      have := hf x hx hne
      omega⟩
  have hk : ∀ b n, Zb out B b n → b ∈ gs := fun b n z => (h.ends _ z.1).1 z.2.1
  intro v hv
  have a := long_le h.rkl hk hl h.long v hv
  have b := long_le h.rkl hk h.long hl v hv
  omega
/-- ranks below how many there are -/
def crank (N : List α) (rank : α → Nat) (v : α) : Nat := (N.filter fun x => decide (rank x < rank v)).length
theorem crank_lt {N : List α} {rank : α → Nat} {b n : α} (hb : b ∈ N) (h : rank b < rank n) : crank N rank b < crank N rank n := by
  unfold crank
  have sub : (N.filter fun x => decide (rank x < rank b)) = (N.filter fun x => decide (rank x < rank n)).filter fun x => decide (rank x < rank b) := by
    rw [List.filter_filter]
    apply List.filter_congr
    intro x _
    by_cases c : rank x < rank b
    · simp [c, show rank x < rank n by omega]
    · simp [c]
  rw [sub]
  have hm : b ∈ N.filter fun x => decide (rank x < rank n) := List.mem_filter.mpr ⟨hb, decide_eq_true h⟩
  have hle := List.length_filter_le (fun x => decide (rank x < rank b)) (N.filter fun x => decide (rank x < rank n))
  rcases Nat.lt_or_eq_of_le hle with c | c
  · exact c
  · have := List.length_filter_eq_length_iff.mp c b hm
    simp at this
theorem crank_top {N : List α} {rank : α → Nat} {v : α} (hv : v ∈ N) : crank N rank v < N.length := by
  unfold crank
  have hle := List.length_filter_le (fun x => decide (rank x < rank v)) N
  rcases Nat.lt_or_eq_of_le hle with c | c
  · exact c
  · have := List.length_filter_eq_length_iff.mp c v hv
    simp at this
/-! ### what the law tells is the beat -/
def bareL (mv : α → Int) (ws : List (α × α × Int)) : List (E2 α) := (ws.filter fun q => decide (rg mv q = 0)).map fun q => (q.1, q.2.1)
theorem mem_bare {mv : α → Int} {ws : List (α × α × Int)} {b t : α} : (b, t) ∈ bareL mv ws ↔ ∃ q ∈ ws, q.1 = b ∧ q.2.1 = t ∧ rg mv q = 0 := by
  unfold bareL
  rw [List.mem_map]
  constructor
  · rintro ⟨q, hq, e⟩
    obtain ⟨h1, h2⟩ := List.mem_filter.mp hq
    rw [Prod.mk.injEq] at e
    exact ⟨q, h1, e.1, e.2, of_decide_eq_true h2⟩
  · rintro ⟨q, hq, rfl, rfl, h⟩
    exact ⟨q, List.mem_filter.mpr ⟨hq, decide_eq_true h⟩, rfl⟩
theorem zb_iff {mv : α → Int} {ws : List (α × α × Int)} {out b t : α} : Zb out (bareL mv ws) b t ↔ Zr ws out mv b t := by
  unfold Zb Zr
  rw [mem_bare]
  exact ⟨fun ⟨⟨q, h1, h2, h3, h4⟩, h5, h6⟩ => ⟨q, h1, h2, h3, h4, h5, h6⟩, fun ⟨q, h1, h2, h3, h4, h5, h6⟩ => ⟨⟨q, h1, h2, h3, h4⟩, h5, h6⟩⟩
theorem BeatIs.congr {ks : List α} {d d' : α → Int} {ws : List (α × α × Int)} {out : α} {mv : α → Int} {r : Option Int} (e : ∀ n ∈ ks, d n = d' n) (h : BeatIs ks d ws out mv r) : BeatIs ks d' ws out mv r := by
  cases r with
  | none => exact h
  | some m =>
    obtain ⟨h1, S, rank, h2, h3⟩ := h
    exact ⟨h1, S, rank, fun n hn => ⟨fun b z => by rw [← e n hn]; exact (h2 n hn).up b z, by rw [← e n hn]; exact (h2 n hn).low, by rw [← e n hn]; exact (h2 n hn).eq⟩, h3⟩
/-- whatever the beat is, r is -/
def LB (gs : List α) (d : α → Int) (ws : List (α × α × Int)) (out : α) (mv : α → Int) (r : Option Int) : Prop := ∀ ks, (∀ n, n ∈ ks ↔ n ∈ gs ++ [out]) → ∀ r', BeatIs ks d ws out mv r' → r' = r
theorem hyS_of {gs ks : List α} {d : α → Int} {ws : List (α × α × Int)} {out : α} {mv : α → Int} {S : α → Int} {rank : α → Nat} (hk : ∀ n, n ∈ ks ↔ n ∈ gs ++ [out]) (hno : out ∉ gs) (hw : ∀ q ∈ ws, q.1 ∈ gs ++ [out] ∧ q.2.1 ∈ gs ++ [out])
    (h1 : ∀ n ∈ ks, LongAt d (Zr ws out mv) S n) (h2 : ∀ b n, Zr ws out mv b n → rank b < rank n) : HyS out d S (crank (gs ++ [out]) rank) (bareL mv ws) gs (gs ++ [out]).length := by
  have hZ : Zb out (bareL mv ws) = Zr ws out mv := by funext b t; exact propext zb_iff
  have hin : ∀ n, n ∈ gs ++ [out] → n ≠ out → n ∈ gs := fun n hn hne => by
    rcases List.mem_append.mp hn with z | z
    · exact z
    · exact absurd (List.mem_singleton.mp z) hne
  refine ⟨fun n hn => by rw [hZ]; exact h1 n ((hk n).mpr (List.mem_append_left _ hn)), fun b n z => ?_, fun n hn => crank_top (List.mem_append_left _ hn), fun e he => ?_, hno⟩
  · rw [hZ] at z
    obtain ⟨q, hq, e1, _⟩ := id z
    exact crank_lt (e1 ▸ (hw q hq).1) (h2 b n z)
  · obtain ⟨q, hq, e1, e2, _⟩ := mem_bare.mp (show (e.1, e.2) ∈ bareL mv ws from he)
    exact ⟨fun z => hin _ (e1 ▸ (hw q hq).1) z, fun z => hin _ (e2 ▸ (hw q hq).2) z⟩
theorem LB.neg {gs : List α} {d : α → Int} {ws : List (α × α × Int)} {out : α} {mv : α → Int} {q : α × α × Int} (hq : q ∈ ws) (h : rg mv q < 0) : LB gs d ws out mv none := by
  intro ks _ r' hb
  cases r' with
  | none => rfl
  | some m => exact absurd (hb.1 q hq) (by omega)
theorem LB.ring {gs : List α} {d : α → Int} {ws : List (α × α × Int)} {out : α} {mv : α → Int} (hr : RingB out (bareL mv ws) true) : LB gs d ws out mv none := by
  intro ks hk r' hb
  cases r' with
  | none => rfl
  | some m =>
    exfalso
    obtain ⟨_, S, rank, _, h3, _⟩ := hb
    obtain ⟨R, hne, h1, h2⟩ := hr.1 rfl
    refine no_ring h3 ⟨R.map (·.2), fun z => hne (List.map_eq_nil_iff.mp z), fun n hn => ?_⟩
    obtain ⟨e, he, rfl⟩ := List.mem_map.mp hn
    obtain ⟨e', he', ee⟩ := h2 e he
    obtain ⟨g1, g2, g3⟩ := h1 e he
    exact ⟨e.1, ee ▸ List.mem_map.mpr ⟨e', he', rfl⟩, zb_iff.mp ⟨g1, g2, g3⟩⟩
theorem LB.fix {gs : List α} {d best : α → Int} {ws : List (α × α × Int)} {out : α} {mv : α → Int} {b : Bool} {M : Int} (hno : out ∉ gs) (hw : ∀ q ∈ ws, q.1 ∈ gs ++ [out] ∧ q.2.1 ∈ gs ++ [out]) (hpos : ∀ q ∈ ws, 0 ≤ rg mv q) (h0 : d out = 0) (I : LbI out d best (bareL mv ws))
    (hf : ∀ e ∈ bareL mv ws, e.1 ≠ out → best e.1 + d e.2 ≤ best e.2) (hr : RingB out (bareL mv ws) b) (hM : ∀ n ∈ gs ++ [out], best n ≤ M) (hM2 : ∃ n ∈ gs ++ [out], best n = M) : LB gs d ws out mv (if b = true then none else some M) := by
  intro ks hk r' hb
  cases b with
  | true =>
    rw [if_pos rfl]
    cases r' with
    | none => rfl
    | some m =>
      exfalso
      obtain ⟨_, S, rank, _, h3, _⟩ := hb
      obtain ⟨R, hne, h1, h2⟩ := hr.1 rfl
      refine no_ring h3 ⟨R.map (·.2), fun z => hne (List.map_eq_nil_iff.mp z), fun n hn => ?_⟩
      obtain ⟨e, he, rfl⟩ := List.mem_map.mp hn
      obtain ⟨e', he', ee⟩ := h2 e he
      obtain ⟨g1, g2, g3⟩ := h1 e he
      exact ⟨e.1, ee ▸ List.mem_map.mpr ⟨e', he', rfl⟩, zb_iff.mp ⟨g1, g2, g3⟩⟩
  | false =>
    rw [if_neg (by decide)]
    cases r' with
    | none =>
      exfalso
      rcases hb with ⟨q, hq, hn⟩ | hR
      · have := hpos q hq; omega
      · obtain ⟨rank, h1⟩ := hr.2 rfl
        refine no_ring (rank := rank) (fun b t z => ?_) hR
        obtain ⟨z1, z2, z3⟩ := zb_iff.mpr z
        exact h1 _ z1 z2 z3
    | some m =>
      obtain ⟨_, S, rank, h2, h3, h4, n0, hn0, e0⟩ := hb
      have hS := hyS_of hk hno hw h2 h3
      have hE := fix_eq hS I hf
      have ho : S out = 0 := by
        rcases (h2 out ((hk out).mpr (by simp))).eq with e | ⟨b, z, _⟩
        · omega
        · obtain ⟨q, _, _, _, _, _, z6⟩ := z; exact absurd rfl z6
      have hin : ∀ n, n ∈ gs ++ [out] → n ∈ gs ∨ n = out := fun n hn => (List.mem_append.mp hn).imp id fun z => List.mem_singleton.mp z
      congr 1
      refine Int.le_antisymm ?_ ?_
      · rcases hin n0 ((hk n0).mp hn0) with z | rfl
        · have h1 := hE n0 z
          have h5 := hM n0 (List.mem_append_left _ z)
          omega
        · have h1 := I.low n0
          have h5 := hM n0 (by simp)
          omega
      · obtain ⟨v, hv, ev⟩ := hM2
        rcases hin v hv with z | rfl
        · have h1 := hE v z
          have h5 := h4 v ((hk v).mpr hv)
          omega
        · have h6 := h4 v ((hk v).mpr hv)
          rcases I.eq v with e | ⟨x, hx, hne, e2, e⟩
          · omega
          · have h7 := (hS.ends x hx).1 hne
            have h8 := hE x.1 h7
            have h9 := h4 x.1 ((hk x.1).mpr (List.mem_append_left _ h7))
            omega
end
end PN
namespace PN
open PySem PySem.Spec PyProof.Rows L2 LayT
def dL (d : Str → Int) (n : Str) : Int := if n = out then 0 else d n
theorem dEq_iff {N : List Str} {f g : Str → Int} (h : N.Nodup) : dEq (kN N f) (kN N g) = true ↔ ∀ n ∈ N, f n = g n := by
  unfold dEq
  rw [List.all_eq_true]
  constructor
  · intro hh n hn
    have h1 := hh ((Sum.inr n : Key), V.int (f n)) (List.mem_map.mpr ⟨n, hn, rfl⟩)
    have h2 := of_decide_eq_true h1
    dsimp only at h2
    rw [kN_get hn] at h2
    exact (V.int.inj (Option.some.inj h2)).symm
  · intro hh p hp
    obtain ⟨n, hn, rfl⟩ := List.mem_map.mp hp
    refine decide_eq_true ?_
    dsimp only
    rw [kN_get hn, hh n hn]
theorem paired_imp {α β : Type} {R S : α → β → Prop} (f : ∀ x y, R x y → S x y) {xs : List α} {ys : List β} (h : Paired R xs ys) : Paired S xs ys := by
  induction h with
  | nil => exact .nil
  | cons a _ ih => exact .cons (f _ _ a) ih
end PN
namespace PN
open PySem PySem.Spec PyProof.Rows L2 LayT
/-! ### a class made where what is raised goes to the suite -/
section
variable {X : Cx} {CX : CXT} {k : Nat} {f C : Addr} {fd : FuncData} {ps : List Str} {sp : Sp} {E : L2.St → XK} {x : Str} {p pos : Pos} {e : Expr} {es : List Expr} {t : TA}
def tMakeS (C : Addr) (sp : Sp) (E : L2.St → XK) (t : TA) : TE := fun σ H Q => t σ H fun vs H1 => ∀ x dx, H1 x = none → H1 dx = none → dx ≠ x →
  sp (.ref x :: vs) (upd (upd H1 dx (.own x)) x (.ins C dx [])) (fun v H2 => v = .non ∧ Q (.ref x) H2) (E σ)
theorem run_makeS {pins : List (Addr × Obj)} {σ : L2.St} {H : Hp} {s : Shared} {Q : VK} {us : List Value} {vs : List V} (M : Mk X.K C f) (F : FnOk X.prog X.w X.K X.mg X.base CX k f fd ps sp) (hr : Room (k + 1) X.A) (hb : Binds X.K fd ps [])
    (hx : PassesAt CX X σ (E σ)) (I : L2.Inv X pins σ H s) (r : Vals vs us)
    (h : ∀ x dx, H x = none → H dx = none → dx ≠ x → sp (.ref x :: vs) (upd (upd H dx (.own x)) x (.ins C dx [])) (fun v H2 => v = .non ∧ Q (.ref x) H2) (E σ)) :
    wpAny (model X.prog X.w) X.A (call (.ref C) us) (EP X pins σ Q) X.xe s := by
  have hq := h (s.heap.objs.size + 1) s.heap.objs.size (I.hok.fresh (Nat.le_succ _)) (I.hok.fresh (Nat.le_refl _)) (Nat.ne_of_lt (Nat.lt_succ_self _))
  have I2 := Inv.made (C := C) I
  have r2 : Vals (V.ref (s.heap.objs.size + 1) :: vs) (Value.ref (s.heap.objs.size + 1) :: us) := .cons rfl r
  have hl : (Value.ref (s.heap.objs.size + 1) :: us).length = ps.length := by
    have e := r2.length
    rw [F.len _ _ _ _ hq] at e
    exact e.symm
  have hb2 := hb _ (Value.ref (s.heap.objs.size + 1) :: us) I2.kIn (by rw [List.append_nil]; exact hl)
  rw [List.append_nil] at hb2
  refine wpAny_call (make_map (f := f) I.kIn M.makes M.init (beq_iff_eq.mp M.fn) (codeAny_mono (F.run _ X.stack _ _ ⟨Value.ref (s.heap.objs.size + 1) :: us, []⟩ (Value.ref (s.heap.objs.size + 1) :: us) _ _ (E σ) (hr.make C us [])
    (I2.env0.make C us []) hb2 r2 hq) fun r s' hq' => ?_))
  cases r with
  | error e => exact hx pins _ _ e s' I2 hq'
  | ok fl =>
    cases fl with
    | ret u =>
      obtain ⟨v, H', I3, rv, ev, q3⟩ := I2.after hq'
      subst ev
      exact ⟨rv, ⟨V.ref (s.heap.objs.size + 1), H', I3, rfl, q3⟩⟩
    | next => exact False.elim hq'
    | brk => exact False.elim hq'
    | cont => exact False.elim hq'
theorem pe_makeS (M : Mk X.K C f) (F : FnOk X.prog X.w X.K X.mg X.base CX k f fd ps sp) (hr : Room (k + 1) X.A) (hg : Gl X x) (hm : X.mg x = some (.ref C)) (hb : Binds X.K fd ps []) (hx : ∀ σ, PassesAt CX X σ (E σ))
    (ha : PA X (e :: es) t) (hdb : (x == ("__debug__" : Str)) = false := by decide) (he : starEach (e :: es) X.env = (false, eval e X.env) :: starEach es X.env := by rfl) (hpl : (backTo pos (starEach es X.env)).any (·.1) = false := by rfl) :
    PE X (.Call (.Name x p) (e :: es) [] pos) (tMakeS C sp E t) := by
  refine ⟨fun pins s σ H Q I h => ?_⟩
  refine wpAny_Call_Name_kw (ld_glob I hg hm ?_ hdb)
  refine PySem.W.callWith_K (h₀ := X.base) I.ok.mod.kin M.kp (thn (ha.run pos pins s σ H _ I h) fun us s1 ⟨vs, H1, I1, r, q⟩ => ⟨I1.kIn, ?_⟩) he hpl
  exact run_makeS M F hr hb (hx σ) I1 r q
end
/-- a refusal -/
def Refd (x : Option (List (Str × D))) (y : Option (List D)) : Prop := areDel x = false ∨ ∃ dl, x = some dl ∧ areDel x = true ∧ (areWires (gsO dl) y = false ∨ ∃ ws, y = some (ws.map wD) ∧ areWires (gsO dl) y = true ∧ ∀ ks, ks.Perm (nmO dl) → sortedS ks = true → ∀ r, BeatIs ks (dO dl) ws out (fun _ => 0) r → r = none)
theorem wD_inj : ∀ (l1 l2 : List W3), l1.map wD = l2.map wD → l1 = l2 := by
  have inj : ∀ a b : W3, wD a = wD b → a = b := fun a b h => by
    obtain ⟨a1, a2, a3⟩ := a
    obtain ⟨b1, b2, b3⟩ := b
    unfold wD at h
    simp at h
    simp [h]
  intro l1
  induction l1 with
  | nil =>
    intro l2 h
    cases l2 with
    | nil => rfl
    | cons b l2 => cases h
  | cons a l1 ih =>
    intro l2 h
    cases l2 with
    | nil => cases h
    | cons b l2 =>
      rw [List.map_cons, List.map_cons, List.cons.injEq] at h
      rw [inj _ _ h.1, ih _ h.2]
structure MkX (P : Program) (w : World) (K : PySem.W.Frag) (mg : Str → Option Value) (base : Heap) (C : Addr) (nm : Str) (ps : List Str) (k : Nat) (sp : Sp) (f : Addr) (fd : FuncData) : Prop where
  M : Mk K C f
  ok : FnOk P w K mg base (L2.CX P w) k f fd ps sp
  b : Binds K fd ps []
  g : mg nm = some (.ref C)
section
variable {P : Program} {w : World} {K : PySem.W.Frag} {mg : Str → Option Value} {base : Heap} {C CB : Addr}
theorem DelAt.same {H H' : Hp} {v : V} {x : Option (List (Str × D))} (h : DelAt H v x) (s : Same H H') : DelAt H' v x := by
  cases x with
  | none => exact h
  | some dl =>
    obtain ⟨a, kvs, h1, h2, h3, h4⟩ := h
    exact ⟨a, kvs, h1, s _ _ h2, h3, h4.same s⟩
end
end PN
/-! sorted(list of pairs (text, int)): the same pairs in some order -/
namespace LayT
open PySem PySem.Spec PyProof.Rows L2
section
variable {prog : Program} {w : World} {A : Around} {E : Value → Shared → Prop} {s : Shared}
def IsPairS (h : Heap) (v : Value) (x : Str) (y : Int) : Prop := ∃ a o t u n, v = .ref a ∧ h.get? a = some o ∧ o.cls = .type "tuple" ∧ o.data = .seq #[.str x t, .int y u] n
theorem IsPairS.keeps {h h' : Heap} {v : Value} {x : Str} {y : Int} (p : IsPairS h v x y) (k : ∀ b o, h.get? b = some o → o.cls = .type "tuple" → h'.get? b = some o) : IsPairS h' v x y := by
  obtain ⟨a, o, t, u, n, e, ho, hc, hd⟩ := p
  exact ⟨a, o, t, u, n, e, k _ _ ho hc, hc, hd⟩
theorem pairS_tot {vs : List Value} (hp : ∀ v ∈ vs, ∃ x y, IsPairS s.heap v x y) : Srt.Tot prog w A s (tuples' true) (fun p => p.1 ∈ vs) := by
  intro p q hm hm'
  obtain ⟨x, y, a, o, t, u, n, e, ho, hc, hd⟩ := hp _ hm
  obtain ⟨x', y', a', o', t', u', n', e', ho', hc', hd'⟩ := hp _ hm'
  rw [e, e']
  refine ⟨if x = x' then (if y = y' then false else decide (y < y')) else decide (x.cps.toList < x'.cps.toList), ?_⟩
  refine PySem.W.kat_lt ho hd ho' hd' ?_
  show PySem.W.KatLex prog w A true (decide (2 < 2)) _ [(.str x t, .str x' t'), (.int y u, .int y' u')] 0 s
  refine PySem.W.kat_cons (SeqAt.EqAt.str_str x t x' t' prog w _ _ ?_)
  refine PySem.W.kat_go (fun e1 => ?_) (fun e1 => ?_)
  · have ex : x = x' := by simpa using e1
    refine PySem.W.kat_yes (PySem.W.kat_cons (SeqAt.EqAt.int_int y u y' u' prog w _ _ ?_))
    refine PySem.W.kat_go (fun e2 => ?_) (fun e2 => ?_)
    · have ey : y = y' := by simpa using e2
      have e3 : (if x = x' then (if y = y' then false else decide (y < y')) else decide (x.cps.toList < x'.cps.toList)) = false := by rw [if_pos ex, if_pos ey]
      exact PySem.W.kat_yes (PySem.W.kat_nil ⟨rfl, e3.symm⟩)
    · have ey : ¬ y = y' := by simpa using e2
      have e3 : (if x = x' then (if y = y' then false else decide (y < y')) else decide (x.cps.toList < x'.cps.toList)) = decide (y < y') := by rw [if_pos ex, if_neg ey]
      refine PySem.W.kat_no (PySem.W.kat_one _ _ (PyProof.Rows.lt_int ?_))
      exact (show s = s ∧ decide (y < y') = (if x = x' then (if y = y' then false else decide (y < y')) else decide (x.cps.toList < x'.cps.toList)) from ⟨rfl, e3.symm⟩)
  · have ex : ¬ x = x' := by simpa using e1
    have e3 : (if x = x' then (if y = y' then false else decide (y < y')) else decide (x.cps.toList < x'.cps.toList)) = decide (x.cps.toList < x'.cps.toList) := by rw [if_neg ex]
    exact PySem.W.kat_no (oneLt_str ⟨rfl, e3.symm⟩)
theorem firstsS {h : Heap} : ∀ {vs : List Value}, (∀ v ∈ vs, ∃ x y, IsPairS h v x y) → ∃ fs : List Value, PySem.W.KatTups h vs fs ∧ fs.length = vs.length ∧ ∀ f ∈ fs, ∃ x t, f = Value.str x t
  | [], _ => ⟨[], PySem.W.KatTups.nil, rfl, fun _ hm => by simp at hm⟩
  | v :: vs, hp => by
    obtain ⟨fs, h1, h2, h3⟩ := firstsS (vs := vs) fun v' hm => hp v' (List.mem_cons_of_mem _ hm)
    obtain ⟨x, y, a, o, t, u, n, e, ho, hc, hd⟩ := hp v (List.mem_cons_self ..)
    subst e
    refine ⟨.str x t :: fs, PySem.W.KatTups.cons ho hc hd rfl h1, by rw [List.length_cons, List.length_cons, h2], fun f hm => ?_⟩
    rcases List.mem_cons.mp hm with rfl | hm
    · exact ⟨x, t, rfl⟩
    · exact h3 f hm
theorem pairsS_sortable {a : Addr} {vs : List Value} (h0 : 0 < vs.length) (hp : ∀ v ∈ vs, ∃ x y, IsPairS s.heap v x y) (ha : ∀ o, s.heap.get? a = some o → o.cls ≠ .type "tuple") : Srt.Sortable prog w A s a vs := by
  intro h' keep
  have hp' : ∀ v ∈ vs, ∃ x y, IsPairS h' v x y := fun v hm => by
    obtain ⟨x, y, p⟩ := hp v hm
    exact ⟨x, y, p.keeps fun b o e c => keep b o (fun z => by subst z; exact ha o e c) e⟩
  obtain ⟨fs, h1, h2, h3⟩ := firstsS hp'
  refine ⟨tuples' true, fun Q E hq => ?_, pairS_tot hp'⟩
  refine PySem.W.kat_kind (T := .type "str") h1 (by omega) (fun f hm => ?_) (by rfl) ?_
  · obtain ⟨x, t, rfl⟩ := h3 f hm
    exact PySem.W.Looks.now
  · have e : (Value.type "str" != Value.type "tuple") = true := by first | decide +kernel | rfl | decide
    rw [e]
    exact hq
theorem sorted_pairsS {l : Addr} {vs : List Value} {Q : Value → Shared → Prop} (hl : s.heap.IsList l vs.toArray) (hz : vs.length ≤ sizeLine) (hp : ∀ v ∈ vs, ∃ x y, IsPairS s.heap v x y)
    (h : ∀ (h' : Heap) (d : Addr) (out : List Value), out.Perm vs → (∀ b o, s.heap.get? b = some o → h'.get? b = some o) → s.heap.objs.size ≤ d → (∃ n, h'.get? d = some (seqObj "list" out.toArray n)) → Q (.ref d) { s with heap := h' }) :
    wpAny (model prog w) A (call (.builtin "sorted") [.ref l]) Q E s := by
  refine Srt.sorted_any hl hz (fun h2 h₁ a ha k => ?_) fun out ho => ?_
  · refine pairsS_sortable (s := { s with heap := h₁ }) (by omega) (fun v hm => ?_) fun o e => ?_
    · obtain ⟨x, y, p⟩ := hp v hm
      exact ⟨x, y, p.keeps fun b o e _ => (k b o e).2⟩
    · have e' : some o = some (seqObj "list" vs.toArray 0) := e.symm.trans ha
      cases e'
      intro c
      exact absurd (Value.type.inj c) (by decide)
  · exact h _ _ out ho (fun b o e => sortedAll_old e) (Nat.le_succ _) (sortedAll_at s.heap vs out.toArray)
end
section
variable {X : Cx}
def rSortedPS (K : PySem.W.Frag) : List V → Hp → VK → Prop := fun vs H Q => ∃ a xs, vs = [V.ref a] ∧ SqL K H a xs ∧ (∀ x ∈ xs, ∃ t i j, x = V.ref t ∧ H t = some (.tup [.str i, .int j])) ∧
  ∀ ys p, ys.Perm xs → H p = none → Q (.ref p) (upd H p (.lst ys))
theorem cr_sortedPS : CallR X (.builtin "sorted") (rSortedPS X.K) := by
  intro pins s σ H vs us Q I r h
  obtain ⟨a, xs, rfl, hs, hx, q⟩ := h
  obtain ⟨its, rv, hl, hz⟩ := I.list hs
  obtain ⟨u, rfl, ru⟩ := vals1 r
  obtain rfl : u = Value.ref a := ru
  obtain ⟨e1, e2⟩ := refs_back rv fun x m => by
    obtain ⟨t, _, _, e, _⟩ := hx x m
    exact ⟨t, e⟩
  refine sorted_pairsS hl.isList (by rw [← rv.length]; exact hz) (fun v hv => ?_) fun h' d out hp k hd hn => ?_
  · obtain ⟨t, rfl⟩ := e2 v hv
    have hm : V.ref t ∈ xs := by rw [e1]; exact List.mem_map.mpr ⟨_, hv, rfl⟩
    obtain ⟨t', i, j, e, ht⟩ := hx _ hm
    cases e
    obtain ⟨_, its2, r2, o, ho, hc, n, hd⟩ := I.hok _ _ ht
    obtain ⟨u1, u2, rfl, ri, rj⟩ := vals2 r2
    obtain ⟨t1, rfl⟩ := ri
    obtain ⟨t2, rfl⟩ := rj
    exact ⟨i, j, t, o, t1, t2, n, rfl, ho, hc, hd⟩
  · have h3 : ∀ u ∈ out, ∃ a, u = Value.ref a := fun u hu => e2 u (hp.mem_iff.mp hu)
    obtain ⟨n, hn⟩ := hn
    refine ⟨.ref d, upd H d (.lst (out.map backV)), I.laid (t' := s.toks) k hd ⟨?_, out, n, vals_back h3, hn⟩, rfl, q _ d ?_ (I.hok.fresh hd)⟩
    · rw [List.length_map, hp.length_eq, ← rv.length]; exact hz
    · rw [e1]; exact hp.map backV
end
end LayT
/-! dict(reversed(list of pairs)) -/
namespace LayT
open PySem PySem.Spec PyProof.Rows L2
theorem lri_no_keys : typeLookup (.type "list_reverseiterator") "keys" = pure none := am_miss_of_fast (by decide +kernel)
theorem lri_getattr_none : typeLookup (.type "list_reverseiterator") "__getattr__" = pure none := am_miss_of_fast (by decide +kernel)
theorem slot_lri_getattribute : Slot "list_reverseiterator" "__getattribute__" "object.__getattribute__" :=
  .of (owner := "object") (n := "__getattribute__") (by rw [typeLookup_type, builtinLookup_eq_fast]; kernel_rfl) (by decide +kernel) (by decide +kernel) (by decide +kernel)
    (by first | exact .inl (by decide +kernel) | exact .inr (by decide +kernel)) (by rw [isSubtype_type]; kernel_rfl)
theorem meets_getattribute_miss_lri (a : Addr) (fs : Array Value) (sl : Array (Option Value)) (name : Str) (u : Tok) (hmiss : typeLookup (.type "list_reverseiterator") name = pure none) (hname : (["__module__", "__name__", "__qualname__", "__doc__", "__annotations__"] : List Str).contains name = false) (hsz : name.length + 100 ≤ sizeLine := by size_fits) :
    Meets (Builtin.«object.__getattribute__» ⟨[.ref a, .str name u], []⟩) (fun A R s => s.heap.get? a = some { cls := .type "list_reverseiterator", dict := none, data := .fields fs, slots := sl } ∧ raisesAttr (.ref a) name A R s) :=
  Meets.of_wp fun prog w A R s hs => by
    obtain ⟨hp, g, d, tk, os⟩ := s
    obtain ⟨hx, hs⟩ := hs
    have hT : (⟨hp, g, d, tk, os⟩ : Shared).TypeIs (.ref a) "list_reverseiterator" := ⟨_, hx, rfl⟩
    unfold Builtin.«object.__getattribute__»
    repeat (any_goals (first | assumption | wp_step))
    simp only [hname, Bool.false_eq_true, if_false]
    repeat (any_goals (first | assumption | wp_step))
    exact wpAny_raiseAttrError hs.1 hs.2 (attrMsg_fits (by decide +kernel) hsz)
theorem getAttrOr_miss_lri {prog : Program} {w : World} {A : Around} {E : Value → Shared → Prop} {s : Shared} {a : Addr} {o : Obj} {fs : Array Value} {name : Str} {Q : Option Value → Shared → Prop} (hx : s.heap.get? a = some o) (hc : o.cls = .type "list_reverseiterator") (hdat : o.data = .fields fs) (hd : o.dict = none) (hmiss : typeLookup (.type "list_reverseiterator") name = pure none)
    (hname : (["__module__", "__name__", "__qualname__", "__doc__", "__annotations__"] : List Str).contains name = false) (hA : A.handled = none)
    (h : ∀ h' tk, (∀ b o, s.heap.get? b = some o → h'.get? b = some o) → Q none { s with heap := h', toks := tk }) (hsz : name.length + 100 ≤ sizeLine := by size_fits) :
    wpAny (model prog w) A (getAttr? (.ref a) name) Q E s := by
  obtain ⟨c, dct, dat, sl⟩ := o
  simp only at hc hdat hd
  subst hc hdat hd
  obtain ⟨hp, g, d, tk, os⟩ := s
  have hT : ∀ tk', (⟨hp, g, d, tk', os⟩ : Shared).TypeIs (.ref a) "list_reverseiterator" := fun _ => ⟨_, hx, rfl⟩
  have f1 := sub_AttributeError
  have f3 := slot_lri_getattribute.lookup
  have f4 := slot_lri_getattribute.bind (.ref a)
  have f5 := lri_getattr_none
  unfold getAttr? getAttrBy?
  repeat (any_goals (first | assumption | exact hT _ | ((with_reducible show wpAny _ _ (call (Value.builtin "object.__getattribute__") _ _) _ _ _); refine call_meets slot_lri_getattribute (hT _) PySem.F.entry_object_getattribute (PySem.F.args_object_getattribute_2 _ _) (meets_getattribute_miss_lri a fs sl name _ hmiss hname hsz) ⟨hx, hA, fun h' tk' e hx' => ?_⟩) | wp_step))
  obtain ⟨t', u', he⟩ := hx'.there
  show wpAny _ _ (getattributeRaised _ _ _ _ _ _ _) _ _ _
  unfold getattributeRaised
  repeat (any_goals (first | assumption | wp_step))
  exact h _ _ hx'.keeps
section
variable {prog : Program} {w : World} {A : Around} {E : Value → Shared → Prop}
/-- the walk over the pairs, from the last -/
theorem upd_loopR {R : Result → Shared → Prop} {S I l : Addr} {items : Array Value} {res : Value} (hh : A.handled = none) (hlI : l ≠ I) (hSI : S ≠ I) (hSl : S ≠ l) :
    ∀ (rest : List (Key × Value)) (acc : List (Key × Value)) (ix : Int) (t : Tok) (s : Shared), rest.length ≤ items.size → acc.length + rest.length ≤ sizeLine →
      (∀ (j : Nat) (q : Key × Value), rest[j]? = some q → ∃ (b : Addr) (u : Value), items[rest.length - 1 - j]? = some (.ref b) ∧ b ≠ S ∧ b ≠ I ∧ IsTup s.heap b #[u, q.2] ∧ keyIs q.1 u = true) →
      s.heap.IsRevIter I l ((rest.length : Int) - 1) → s.heap.IsList l items → s.heap.DictOf (mixKind prog w) S acc →
      (∀ h' tk, h'.DictOf (mixKind prog w) S (merged acc rest) → (∀ b o, b ≠ S → b ≠ I → s.heap.get? b = some o → h'.get? b = some o) → R (.ok (.ret res)) { s with heap := h', toks := tk }) →
      codeAny (model prog w) A (.builtin "dict.update.loop" ⟨[.ref S, .ref I, .int ix t, res], []⟩) R s
  | [], acc, ix, t, s, hsz, hln, ht, hit, hl, hm, hR => by
    refine codeAny_builtin ud_entry ?_
    rw [Around.under_plainId ud_plain _]
    show wpAny _ A.in1 (pyNext (.ref I) >>= _) _ _ s
    refine wpAny_bind (wpAny_pyNext_rev_end (A := A.in1) hh hit fun h' he => ?_)
    show wpAny _ A.in1 (Builtin.Dict.addKeywords S [] >>= _) _ _ _
    refine wpAny_bind (wpAny_pure (wpAny_pure ?_))
    exact hR h' s.toks (hm.extBut he hSI) fun b o _ hb e => he b o hb e
  | q :: rest, acc, ix, t, s, hsz, hln, ht, hit, hl, hm, hR => by
    obtain ⟨b, u, hb, hbS, hbI, htup, hk⟩ := ht 0 q rfl
    rw [List.length_cons] at hsz hln
    have hb' : items[rest.length]? = some (.ref b) := by
      have : (q :: rest).length - 1 - 0 = rest.length := by rw [List.length_cons]; omega
      rw [this] at hb; exact hb
    have hit' : s.heap.IsRevIter I l ((rest.length : Nat) : Int) := by
      have : ((q :: rest).length : Int) - 1 = (rest.length : Int) := by rw [List.length_cons]; omega
      rw [this] at hit; exact hit
    refine codeAny_builtin ud_entry ?_
    rw [Around.under_plainId ud_plain _]
    show wpAny _ A.in1 (pyNext (.ref I) >>= _) _ _ s
    refine wpAny_bind (wpAny_pyNext_rev_item (x := .ref b) hit' hl hb' fun h1 hit1 hs1 => ?_)
    have ht1 : IsTup h1 b #[u, q.2] := htup.extBut hs1.extBut hbI
    have hl1 : h1.IsList l items := hl.extBut hs1.extBut hlI
    have hm1 : h1.DictOf (mixKind prog w) S acc := hm.extBut hs1.extBut hSI
    obtain ⟨o, ho, hc, n, hd⟩ := id ht1
    show wpAny _ A.in1 (holding [Value.ref b] _ >>= _) _ _ _
    refine wpAny_bind (wpAny_holding ?_)
    refine wpAny_bind (wpAny_tryCatch ?_)
    unfold Builtin.Dict.pairItems
    refine wpAny_bind (wpAny_typeOf (T := "tuple") ⟨o, ho, hc⟩ ?_)
    rw [if_pos (by first | decide | rfl | simp)]
    refine wpAny_bind (wpAny_seqItems ho hd (wpAny_pure ?_))
    show wpAny _ A.in1 (holding [u, q.2] (dictSet S u q.2)) _ _ _
    refine wpAny_holding (wpAny_dictSet_pairs (knd := mixKind prog w) (k := q.1) hk hm1 (fun h2 hm2 hs2 => ?_) (by omega))
    refine wpAny_pure ⟨plainId_quiet ud_plain _, upd_loopR (items := items) hh hlI hSI hSl rest (stored acc q.1 q.2) (ix + 1) 0 _ (show rest.length ≤ items.size by omega) ?_ (fun j q' e => ?_) ?_ ?_ hm2 fun h' tk hd' k => ?_⟩
    · have z := stored_length_le acc q.1 q.2
      omega
    · obtain ⟨b', u', hb', hbS', hbI', htup', hk'⟩ := ht (j + 1) q' (by simpa using e)
      refine ⟨b', u', ?_, hbS', hbI', (htup'.extBut hs1.extBut hbI').extBut hs2.extBut hbS', hk'⟩
      rw [show rest.length - 1 - j = (q :: rest).length - 1 - (j + 1) by rw [List.length_cons]; omega]
      exact hb'
    · exact hit1.at fun o' e => hs2.extBut I o' (Ne.symm hSI) e
    · exact hl1.extBut hs2.extBut (Ne.symm hSl)
    · exact hR h' tk hd' fun c oc h3 h4 e => k c oc h3 h4 (hs2.extBut c oc h3 (hs1.extBut c oc h4 e))
/-- dict(it) of a list's reverse iterator that has not begun -/
theorem call_dict_rev {s : Shared} {it l : Addr} {items : Array Value} {prs : List (Key × Value)} {Q : Value → Shared → Prop} (hh : A.handled = none) (hi : s.heap.get? it = some (revObj l ((items.size : Int) - 1))) (hl : s.heap.IsList l items) (hne : l ≠ it) (hsz : items.size = prs.length) (hln : prs.length ≤ sizeLine)
    (ht : ∀ (j : Nat) (q : Key × Value), prs[j]? = some q → ∃ (b : Addr) (u : Value), items[prs.length - 1 - j]? = some (.ref b) ∧ b ≠ it ∧ IsTup s.heap b #[u, q.2] ∧ keyIs q.1 u = true)
    (h : ∀ h' tk, h'.DictOf (mixKind prog w) s.heap.objs.size (merged [] prs) → (∀ b o, b ≠ it → s.heap.get? b = some o → h'.get? b = some o) → Q (.ref s.heap.objs.size) { s with heap := h', toks := tk }) :
    wpAny (model prog w) A (call (.type "dict") [.ref it]) Q E s := by
  refine callType_codes (Q₁ := fun obj s₁ => obj = .ref s.heap.objs.size ∧ s₁ = { s with heap := s.heap.push { cls := .type "dict", data := .dict #[] } }) PySem.F.kt_called_dict (PySem.F.kt_typeCall_dict_1 _) PySem.F.entry_dict_init (kt_code_dict_new _ ⟨rfl, rfl⟩) ?_
  rintro obj s₁ ⟨rfl, rfl⟩
  have hnew : (s.heap.push { cls := .type "dict", data := .dict #[] }).DictOf (mixKind prog w) s.heap.objs.size [] := Heap.DictOf.new s.heap
  have k0 : ∀ b o, s.heap.get? b = some o → (s.heap.push { cls := .type "dict", data := .dict #[] }).get? b = some o := fun b o e => Heap.get?_push_of_some _ e
  refine ⟨hnew.typeIs, PySem.F.args_dict_init_2 _ _, ?_⟩
  unfold Builtin.«dict.__init__»
  refine wpAny_bind ?_
  unfold Builtin.Dict.selfAndRest
  refine wpAny_bind (wpAny_notOrdered_dict hnew.typeIs ?_)
  show wpAny _ _ (pure (s.heap.objs.size, [Value.ref it])) _ _ _
  refine wpAny_pure ?_
  show wpAny _ _ (Builtin.Dict.updateFrom "dict.__init__" s.heap.objs.size (.ref it) [] .none) _ _ _
  unfold Builtin.Dict.updateFrom
  refine wpAny_bind (wpAny_typeOf (T := "list_reverseiterator") ⟨_, k0 _ _ hi, rfl⟩ ?_)
  rw [if_pos (by first | decide | rfl | simp)]
  refine wpAny_bind (getAttrOr_miss_lri (k0 _ _ hi) rfl rfl rfl lri_no_keys (by decide +kernel) hh (fun h1 tk1 hk1 => ?_) (by first | size_fits | decide +kernel))
  rw [if_pos (show (none : Option Value).isNone = true from rfl)]
  refine wpAny_bind (wpAny_rule ?_)
  have hl1 : h1.IsList l items := hl.at fun o e => hk1 _ _ (k0 _ _ e)
  have hi1 : h1.get? it = some (revObj l ((items.size : Int) - 1)) := hk1 _ _ (k0 _ _ hi)
  refine wpAny_bind (wpAny_pyIter_revIter (l := l) (i := (items.size : Int) - 1) ⟨_, hi1, rfl, rfl⟩ ?_)
  have hit : it < s.heap.objs.size := Heap.lt_size hi
  have hlt : l < s.heap.objs.size := by obtain ⟨o, ho, _⟩ := hl; exact Heap.lt_size ho
  have key := upd_loopR (prog := prog) (w := w) (A := A.in1) (R := wants (fun r s₂ => r = .none ∧ Q (.ref s.heap.objs.size) s₂) E) (S := s.heap.objs.size) (I := it) (l := l) (items := items) (res := Value.none) hh
    hne (Nat.ne_of_gt hit) (Nat.ne_of_gt hlt) prs [] 0 0
    { s with heap := h1, toks := tk1 } (by omega) (by rw [List.length_nil, Nat.zero_add]; exact hln)
    (fun j q e => by
      obtain ⟨b, u, e1, e0, e2, e3⟩ := ht j q e
      have hb : b < s.heap.objs.size := e2.lt
      exact ⟨b, u, e1, Nat.ne_of_lt hb, e0, e2.keeps fun c o z => hk1 _ _ (k0 _ _ z), e3⟩)
    (by rw [← hsz]; exact ⟨_, hi1, rfl, rfl⟩) hl1 (hnew.at fun o e => hk1 _ _ e)
    (fun h' tk hd' k => ⟨rfl, h h' tk hd' fun b o hb e => k b o (Nat.ne_of_lt (Heap.lt_size e)) hb (hk1 _ _ (k0 _ _ e))⟩)
  first
    | exact wpAny_pure ⟨plainId_quiet ud_plain _, key⟩
    | exact wpAny_bind (wpAny_pure (wpAny_pure ⟨plainId_quiet ud_plain _, key⟩))
end
end LayT
namespace LayT
open PySem PySem.Spec PyProof.Rows L2
theorem paired_rev {α β : Type} {R : α → β → Prop} {xs : List α} {ys : List β} (h : Paired R xs ys) : Paired R xs.reverse ys.reverse := by
  induction h with
  | nil => exact .nil
  | cons a _ ih => rw [List.reverse_cons, List.reverse_cons]; exact Paired.snoc ih a
def tDictRev (K : PySem.W.Frag) (te : TE) : TE := fun σ H Q => te σ H fun v H1 => ∃ (a : Addr) (ps : List Addr) (kvs : List (Key × V)), v = .ref a ∧ SqL K H1 a (ps.map V.ref) ∧ Paired (fun p kv => SqT K H1 p [kV kv.1, kv.2]) ps kvs ∧ ∀ p, H1 p = none → Q (.ref p) (upd H1 p (.dK (mergeK [] kvs.reverse)))
section
variable {X : Cx}
theorem pe_dictRev {e : Expr} {te : TE} {p p2 pos pos2 : Pos} (hc : X.calm = true) (hg : Gl X "dict") (hm : X.mg "dict" = none) (hv : bootBuiltins "dict" = some (.type "dict")) (hg2 : Gl X "reversed") (hm2 : X.mg "reversed" = none) (he : PE X e te)
    (hs : starEach [e] X.env = (false, eval e X.env) :: starEach [] X.env := by rfl)
    (hs2 : starEach [.Call (.Name "reversed" p2) [e] [] pos2] X.env = (false, eval (.Call (.Name "reversed" p2) [e] [] pos2) X.env) :: starEach [] X.env := by rfl) :
    PE X (.Call (.Name "dict" p) [.Call (.Name "reversed" p2) [e] [] pos2] [] pos) (tDictRev X.K te) := by
  refine ⟨fun pins s σ H Q I h => ?_⟩
  refine Call_ (ld_blt I hg hm hv (PyProof.Rows.callWith_type1 (args_cons (Call_ (ld_blt I hg2 hm2 PyProof.Rows.boot_reversed (PyProof.Rows.callWith_type1 (args_cons (thn (he.run pins s σ H _ I h) fun u s1 ⟨v, H1, I1, r1, q1⟩ => args_nil ?_) hs) hs rfl))) hs2) hs2 rfl))
  obtain ⟨a, ps, kvs, ev, hq, hp, q⟩ := q1
  subst ev
  obtain rfl : u = Value.ref a := r1
  obtain ⟨its, rv, p', hz⟩ := I1.list hq
  have ei := refs_at rv
  subst ei
  rw [List.length_map] at hz
  refine call_reversed_list p'.isList (args_nil ?_)
  have k0 : ∀ b o, s1.heap.get? b = some o → (s1.heap.push (revObj a (((ps.map Value.ref).toArray.size : Int) - 1))).get? b = some o := fun b o e => Heap.get?_push_of_some _ e
  have I2 : Inv X pins σ H1 { s1 with heap := s1.heap.push (revObj a (((ps.map Value.ref).toArray.size : Int) - 1)) } := I1.kept (t' := s1.toks) k0
  have fp := I1.fpOk (H' := H1) (b := s1.heap.objs.size) (Nat.le_refl _) (I1.hok.fresh (Nat.le_refl _))
  have hl := p'.isList
  obtain ⟨ol, hol, _⟩ := id hl
  have hne : a ≠ s1.heap.objs.size := Nat.ne_of_lt (Heap.lt_size hol)
  obtain ⟨prs, rel, hpl, hpr⟩ := pairs_of I1 hp
  have rel2 : KV kvs.reverse prs.reverse := by
    unfold KV at rel ⊢
    exact paired_rev rel
  refine call_dict_rev (s := { s1 with heap := s1.heap.push (revObj a (((ps.map Value.ref).toArray.size : Int) - 1)) }) (prs := prs.reverse) (items := (ps.map Value.ref).toArray) (I1.ok.hd hc) (Heap.get?_push_size _ rfl) (hl.push _) hne (by simp [hpl]) (by rw [List.length_reverse, hpl]; exact hz) (fun j q' e => ?_) fun h' tk hd' hk => ?_
  · have hj : j < prs.length := by
      have := (List.getElem?_eq_some_iff.mp e).1
      rwa [List.length_reverse] at this
    rw [List.getElem?_reverse hj] at e
    obtain ⟨b, u, e1, e2, e3⟩ := hpr _ q' e
    refine ⟨b, u, by rw [List.length_reverse]; simp [e1], Nat.ne_of_lt e2.lt, e2.keeps fun c o z => k0 _ _ z, e3⟩
  · have hm : ((s1.heap.push (revObj a (((ps.map Value.ref).toArray.size : Int) - 1))).objs.size == sysModules) = false := beq_eq_false_iff_ne.mpr (Nat.ne_of_gt I2.big)
    have hlen : (mergeK [] kvs.reverse).length ≤ sizeLine := by
      refine Nat.le_trans (length_mergeK kvs.reverse []) ?_
      rw [List.length_nil, Nat.zero_add, rel2.length, List.length_reverse, hpl]
      exact hz
    have J := I2.turnedNew (t' := tk) (h' := h') (ch := [s1.heap.objs.size]) (fun b ob hb q => hk b ob (fun z => hb (by rw [z]; exact List.mem_singleton_self _)) q) (fun b hb => by rw [List.mem_singleton.mp hb]; exact fp) (Nat.le_refl _)
      (show ObjOk X.prog X.w _ h' _ (.dK (mergeK [] kvs.reverse)) from ⟨hlen, hm, merged [] prs.reverse, KV.merge rel2 .nil, hd'⟩)
    exact ⟨.ref _, _, J, rfl, q _ (I2.hok.fresh (Nat.le_refl _))⟩
end
end LayT
namespace PN
open PySem PySem.Spec PyProof.Rows L2 LayT
def dlOf (gs : List Str) (d : Str → Int) : List (Str × D) := gs.map fun n => (n, D.int (d n))
theorem nms_dl {gs : List Str} {d : Str → Int} : nms (dlOf gs d) = gs := by
  unfold nms dlOf
  rw [List.map_map]
  exact List.map_id' _
theorem del_at {H : Hp} {a : Addr} {gs : List Str} {d : Str → Int} (h : H a = some (.dK (kN gs d))) : DelAt H (.ref a) (some (dlOf gs d)) := by
  refine ⟨a, _, rfl, h, ?_, ?_⟩
  · unfold kN dlOf; rw [List.map_map, List.map_map]; rfl
  · unfold kN dlOf
    rw [List.map_map, List.map_map]
    clear h
    induction gs with
    | nil => rw [List.map_nil]; unfold DsAt; rfl
    | cons n gs ih =>
      rw [List.map_cons, List.map_cons]; unfold DsAt
      exact ⟨_, _, rfl, by unfold DAt; rfl, ih⟩
theorem nmO_dl {gs : List Str} {d : Str → Int} (hno : out ∉ gs) : nmO (dlOf gs d) = gs ++ [out] := by
  unfold nmO
  rw [nms_dl, if_neg hno]
theorem find_dl {gs : List Str} {d : Str → Int} {n : Str} (h : n ∈ gs) : (dlOf gs d).find? (fun p => decide (p.1 = n)) = some (n, D.int (d n)) := by
  induction gs with
  | nil => cases h
  | cons a gs ih =>
    show ((a, D.int (d a)) :: dlOf gs d).find? _ = _
    by_cases e : a = n
    · subst e; rw [List.find?_cons_of_pos (by simp)]
    · rw [List.find?_cons_of_neg (by simpa using e)]
      rcases List.mem_cons.mp h with z | z
      · exact absurd z.symm e
      · exact ih z
theorem dO_dl {gs : List Str} {d : Str → Int} {n : Str} (h : n ∈ gs ++ [out]) : dO (dlOf gs d) n = dL d n := by
  unfold dO dL
  by_cases e : n = out
  · rw [if_pos e, if_pos e]
  · rw [if_neg e, if_neg e]
    rcases List.mem_append.mp h with z | z
    · rw [find_dl z]; rfl
    · exact absurd (List.mem_singleton.mp z) e
theorem ok_dl {gs : List Str} {d : Str → Int} (h1 : gs.Nodup) (h2 : gs.length ≤ 1000) (h3 : ∀ n ∈ gs, n.length ≤ 100) : okDel (some (dlOf gs d)) := by
  refine ⟨?_, by unfold dlOf; rw [List.length_map]; exact h2, fun p hp => ?_⟩
  · have := nms_dl (gs := gs) (d := d)
    unfold nms at this
    rw [this]; exact h1
  · obtain ⟨n, hn, rfl⟩ := List.mem_map.mp hp
    exact h3 n hn
theorem are_dl {gs : List Str} {d : Str → Int} (h1 : 1 ≤ gs.length) (h2 : gs.length ≤ 12) (hw : ∀ n ∈ gs, isWrd (.str n) = true) (hno : out ∉ gs) (hd : ∀ n ∈ gs, 0 ≤ d n ∧ d n ≤ 1000) : areDel (some (dlOf gs d)) = true := by
  show (decide (1 ≤ (dlOf gs d).length) && (decide ((dlOf gs d).length ≤ 12) && (dlOf gs d).all fun p => isWrd (.str p.1) && isDel p.1 p.2)) = true
  have hl : (dlOf gs d).length = gs.length := List.length_map _
  rw [hl, decide_eq_true h1, decide_eq_true h2, Bool.true_and, Bool.true_and, List.all_eq_true]
  intro p hp
  obtain ⟨n, hn, rfl⟩ := List.mem_map.mp hp
  dsimp only
  rw [hw n hn, Bool.true_and]
  show (decide (0 ≤ d n) && decide (d n ≤ topD n)) = true
  have ht : topD n = 1000 := by unfold topD; rw [if_neg (fun e : n = "out" => hno (by rw [show (out : Str) = n from e.symm]; exact hn))]
  rw [ht, decide_eq_true (hd n hn).1, decide_eq_true (hd n hn).2]; rfl
theorem are_ws {dl : List (Str × D)} {ws : List W3} (hl : ws.length ≤ 40) (h : ∀ q ∈ ws, q.1 ∈ nmO dl ∧ q.2.1 ∈ nmO dl ∧ 0 ≤ q.2.2 ∧ q.2.2 ≤ 20) : areWires (gsO dl) (some (ws.map wD)) = true := by
  show (decide ((ws.map wD).length ≤ 40) && (ws.map wD).all (isWire (gsO dl))) = true
  rw [List.length_map, decide_eq_true hl, Bool.true_and, List.all_eq_true]
  intro x hx
  obtain ⟨q, hq, rfl⟩ := List.mem_map.mp hx
  obtain ⟨h1, h2, h3, h4⟩ := h q hq
  show ((decide (q.1 ∈ nmO dl) && decide (q.2.1 ∈ nmO dl)) && (decide (0 ≤ q.2.2) && decide (q.2.2 ≤ 20))) = true
  rw [decide_eq_true h1, decide_eq_true h2, decide_eq_true h3, decide_eq_true h4]; rfl
theorem ds_ws {H : Hp} : ∀ {xs : List V} {ws : List W3}, Al (WAt H) xs ws → DsAt H xs (ws.map wD)
  | [], [], _ => by rw [List.map_nil]; unfold DsAt; rfl
  | [], _ :: _, h => by have := h.1; simp at this
  | _ :: _, [], h => by have := h.1; simp at this
  | x :: xs, q :: ws, h => by
    rw [List.map_cons]; unfold DsAt
    obtain ⟨a, e, ha⟩ := h.2 0 x q rfl rfl
    refine ⟨x, xs, rfl, ?_, ds_ws ⟨by have := h.1; simp at this; exact this, fun i y e hy he => h.2 (i + 1) y e (by simpa using hy) (by simpa using he)⟩⟩
    unfold wD DAt
    refine ⟨a, _, e, ha, ?_⟩
    unfold DsAt
    refine ⟨_, _, rfl, by unfold DAt; rfl, ?_⟩
    unfold DsAt
    refine ⟨_, _, rfl, by unfold DAt; rfl, ?_⟩
    unfold DsAt
    refine ⟨_, _, rfl, by unfold DAt; rfl, ?_⟩
    unfold DsAt; rfl
theorem perm_map {α β : Type} {f : α → β} {l m : List β} (h : l.Perm m) : ∀ {xs : List α}, m = xs.map f → ∃ xs' : List α, xs'.Perm xs ∧ l = xs'.map f := by
  induction h with
  | nil => intro xs e; exact ⟨xs, .refl _, e⟩
  | @cons a l1 l2 _ ih =>
    intro xs e
    cases xs with
    | nil => cases e
    | cons x xs =>
      rw [List.map_cons, List.cons.injEq] at e
      obtain ⟨ys, h1, h2⟩ := ih e.2
      exact ⟨x :: ys, h1.cons x, by rw [List.map_cons, ← h2, e.1]⟩
  | @swap a b l1 =>
    intro xs e
    cases xs with
    | nil => cases e
    | cons x xs =>
      cases xs with
      | nil => simp at e
      | cons y xs =>
        rw [List.map_cons, List.map_cons, List.cons.injEq, List.cons.injEq] at e
        exact ⟨y :: x :: xs, List.Perm.swap .., by rw [List.map_cons, List.map_cons, e.1, e.2.1, e.2.2]⟩
  | trans _ _ ih1 ih2 =>
    intro xs e
    obtain ⟨ys, h1, h2⟩ := ih2 e
    obtain ⟨zs, h3, h4⟩ := ih1 h2
    exact ⟨zs, h3.trans h1, h4⟩
theorem paired_zip {α β : Type} {R : α → β → Prop} {xs : List α} {ys : List β} (h : Paired R xs ys) : ∃ zs : List (α × β), xs = zs.map (·.1) ∧ ys = zs.map (·.2) ∧ ∀ z ∈ zs, R z.1 z.2 := by
  induction h with
  | nil => exact ⟨[], rfl, rfl, fun z h => by cases h⟩
  | @cons a b _ _ r _ ih =>
    obtain ⟨zs, h1, h2, h3⟩ := ih
    refine ⟨(a, b) :: zs, by rw [h1]; rfl, by rw [h2]; rfl, fun z hz => ?_⟩
    rcases List.mem_cons.mp hz with rfl | hz
    · exact r
    · exact h3 z hz
theorem zip_paired {α β : Type} {R : α → β → Prop} : ∀ {zs : List (α × β)}, (∀ z ∈ zs, R z.1 z.2) → Paired R (zs.map (·.1)) (zs.map (·.2))
  | [], _ => .nil
  | z :: zs, h => .cons (h z List.mem_cons_self) (zip_paired fun x hx => h x (List.mem_cons_of_mem _ hx))
/-- a list of pairs, sorted: the pairs in another order -/
theorem perm_pairs {R : Addr → (Key × V) → Prop} {ts : List Addr} {N : List Str} {d : Str → Int} (h : Paired R ts (kN N d)) {ys : List V} (p : ys.Perm (ts.map V.ref)) : ∃ (ts' : List Addr) (N' : List Str), ys = ts'.map V.ref ∧ N'.Perm N ∧ Paired R ts' (kN N' d) := by
  obtain ⟨zs, rfl, h2, h3⟩ := paired_zip h
  rw [List.map_map] at p
  obtain ⟨zs', p1, rfl⟩ := perm_map p rfl
  have p2 : (zs'.map (·.2)).Perm (kN N d) := by rw [h2]; exact p1.map _
  unfold kN at p2
  obtain ⟨N', p3, e⟩ := perm_map p2 rfl
  refine ⟨zs'.map (·.1), N', by rw [List.map_map], p3, ?_⟩
  have := zip_paired (R := R) (zs := zs') fun z hz => h3 z (p1.mem_iff.mp hz)
  rw [e] at this
  exact this
theorem BeatIs.add {ks : List Str} {d : Str → Int} {ws : List W3} {mv : Str → Int} {q : W3} (hq : 0 < rg mv q) {r : Option Int} (h : BeatIs ks d (ws ++ [q]) out mv r) : BeatIs ks d ws out mv r := by
  have hZ : Zr (ws ++ [q]) out mv = Zr ws out mv := by
    funext b t
    refine propext ⟨fun ⟨x, hx, h1, h2, h3, h4⟩ => ?_, fun ⟨x, hx, h1⟩ => ⟨x, List.mem_append_left _ hx, h1⟩⟩
    rcases List.mem_append.mp hx with hx | hx
    · exact ⟨x, hx, h1, h2, h3, h4⟩
    · rw [List.mem_singleton.mp hx] at h3; omega
  cases r with
  | none =>
    rcases h with ⟨x, hx, hn⟩ | hR
    · rcases List.mem_append.mp hx with hx | hx
      · exact .inl ⟨x, hx, hn⟩
      · rw [List.mem_singleton.mp hx] at hn; omega
    · rw [hZ] at hR; exact .inr hR
  | some m =>
    obtain ⟨h1, S, rank, h2, h3, h4⟩ := h
    rw [hZ] at h2 h3
    exact ⟨fun x hx => h1 x (List.mem_append_left _ hx), S, rank, h2, h3, h4⟩
end PN
namespace PN
open PySem PySem.Spec PyProof.Rows L2 LayT
theorem init_ok {C CB : Addr} {H : Hp} {Q : VK} {p dx : Addr} {v1 v2 : V} {dl : List (Str × D)} {ws : List W3} (hp : H p = some (.ins C dx [])) (h1 : DelAt H v1 (some dl)) (h2 : okDel (some dl)) (h3 : areDel (some dl) = true) (h4 : WsAt H v2 (some (ws.map wD))) (h5 : ws.length ≤ 1000)
    (h6 : areWires (gsO dl) (some (ws.map wD)) = true) (hb : ∀ ks, ks.Perm (nmO dl) → BeatIs ks (dO dl) ws out (fun _ => 0) none → False)
    (k : ∀ H' ks m, But p H H' → ks.Perm (nmO dl) → sortedS ks = true → BeatIs ks (dO dl) ws out (fun _ => 0) (some m) → PlAt C H' p ⟨ks, dO dl, ws⟩ → Q .non H') : spInit C CB [.ref p, v1, v2] H Q E0 := by
  refine ⟨p, dx, v1, v2, some dl, some (ws.map wD), rfl, hp, h1, h2, h4, fun ds e => by cases e; rw [List.length_map]; exact h5, fun H' b => ⟨fun ha => ?_, fun dl' e ha => ?_⟩⟩
  · rw [h3] at ha; cases ha
  · cases e
    refine ⟨fun hw => ?_, fun ws' ks ew hw hp' hs => ?_⟩
    · rw [h6] at hw; cases hw
    · obtain rfl := wD_inj _ _ (Option.some.inj ew)
      exact ⟨fun hn => (hb ks hp' hn).elim, fun m hm pl => k H' ks m b hp' hs hm pl⟩
/-- what a plan is made of -/
structure PC (gs : List Str) (d : Str → Int) (ws : List W3) : Prop where
  nd : (gs ++ [out]).Nodup
  l1 : 1 ≤ gs.length
  l2 : gs.length ≤ 12
  wrd : ∀ n ∈ gs, isWrd (.str n) = true
  len : ∀ n ∈ gs, n.length ≤ 100
  dd : ∀ n ∈ gs, 0 ≤ d n ∧ d n ≤ 1000
  wl : ws.length ≤ 40
  ww : ∀ q ∈ ws, q.1 ∈ gs ++ [out] ∧ q.2.1 ∈ gs ++ [out] ∧ 0 ≤ q.2.2 ∧ q.2.2 ≤ 20
/-- no ring without registers -/
def NR (gs : List Str) (d : Str → Int) (ws : List W3) : Prop := ∀ ks, ks.Perm (gs ++ [out]) → BeatIs ks (dO (dlOf gs d)) ws out (fun _ => 0) none → False
theorem PC.nr {gs : List Str} {d : Str → Int} {ws : List W3} (c : PC gs d ws) {rank : Str → Nat} (hr : ∀ b n, Zr ws out (fun _ => 0) b n → rank b < rank n) : NR gs d ws := fun ks _ hb => by
  rcases hb with ⟨q, hq, hn⟩ | hR
  · rw [rg0] at hn
    have := (c.ww q hq).2.2.1
    omega
  · exact no_ring hr hR
/-- a made plan -/
structure PM (gs : List Str) (d : Str → Int) (ws : List W3) (t : PL) : Prop where
  tw : t.ws = ws
  perm : t.ks.Perm (gs ++ [out])
  td : ∀ n ∈ t.ks, t.d n = dL d n
  okp : OkPl t
  okr : ∃ rank, OkR t rank
  k14 : t.ks.length ≤ 14
  beat : ∃ m, BeatIs t.ks t.d t.ws out (fun _ => 0) (some m)
theorem plan_ok {gs : List Str} {d : Str → Int} {ws : List W3} (c : PC gs d ws) (hnr : NR gs d ws) {C CB : Addr} {H : Hp} {Q : VK} {p dx da wa : Addr} {xs : List V} (hp : H p = some (.ins C dx [])) (hda : H da = some (.dK (kN gs d))) (hwa : H wa = some (.lst xs)) (hal : Al (WAt H) xs ws)
    (k : ∀ H' t, But p H H' → PlAt C H' p t → PM gs d ws t → Q .non H') : spInit C CB [.ref p, .ref da, .ref wa] H Q E0 := by
  have hno : out ∉ gs := fun z => (List.nodup_append.mp c.nd).2.2 out z out (by simp) rfl
  have gnd : gs.Nodup := (List.nodup_append.mp c.nd).1
  have nO := nmO_dl (d := d) hno
  have areD : areDel (some (dlOf gs d)) = true := are_dl c.l1 c.l2 c.wrd hno c.dd
  have areW : areWires (gsO (dlOf gs d)) (some (ws.map wD)) = true := are_ws c.wl fun q h => by
    obtain ⟨h1, h2, h3, h4⟩ := c.ww q h
    rw [nO]; exact ⟨h1, h2, h3, h4⟩
  have hl2 := c.l2
  have hwl := c.wl
  refine init_ok hp (del_at hda) (ok_dl gnd (by omega) c.len) areD ⟨wa, xs, rfl, .inl hwa, ds_ws hal⟩ (by omega) areW (fun ks hpk hb => ?_) fun H' ks m b hpk hs hb pl => ?_
  · rw [nO] at hpk
    exact hnr ks hpk hb
  · rw [nO] at hpk
    refine k H' ⟨ks, dO (dlOf gs d), ws⟩ b pl ⟨rfl, hpk, fun n hn => dO_dl (hpk.mem_iff.mp hn), okpl_of (dl := dlOf gs d) (by rw [nms_dl]; exact gnd) areD (by rw [nO]; exact hpk) areW, ?_, ?_, m, hb⟩
    · obtain ⟨_, S, rank, _, hr, _⟩ := id hb
      exact ⟨rank, fun q hq => (c.ww q hq).2.2.1, by show dO (dlOf gs d) out = 0; unfold dO; rw [if_pos rfl], hr⟩
    · show ks.length ≤ 14
      rw [hpk.length_eq, List.length_append]
      simp; omega
theorem PM.best {gs : List Str} {d : Str → Int} {ws : List W3} {t : PL} (m : PM gs d ws t) {b : Int} {f : Str → Int} (h : BestT t b f) : Best (gs ++ [out]) (dL d) ws out b f := by
  have h2 := Best.congr (keys' := gs ++ [out]) (d' := dL d) m.okp.ends m.td (fun n => m.perm.mem_iff) h
  rw [m.tw] at h2
  exact h2
theorem PM.rt {gs : List Str} {d : Str → Int} {ws : List W3} {t : PL} (m : PM gs d ws t) : Rt t.ks t.d t.ws out := by
  obtain ⟨rank, h⟩ := m.okr
  exact h.rt m.okp
theorem make_plan {gs : List Str} {d : Str → Int} {ws : List W3} (c : PC gs d ws) (hnr : NR gs d ws) {C CB : Addr} {G : Hp} {Q : VK} {da wa x dx : Addr} {xs : List V} (hda : G da = some (.dK (kN gs d))) (hwa : G wa = some (.lst xs)) (hal : Al (WAt G) xs ws) (nx : G x = none) (ny : G dx = none)
    (k : ∀ H' t, Same G H' → PlAt C H' x t → PM gs d ws t → Q .non H') : spInit C CB [.ref x, .ref da, .ref wa] (upd (upd G dx (.own x)) x (.ins C dx [])) Q E0 := by
  have s0 := same_mk (Ck := C) nx ny
  exact plan_ok c hnr upd_same (s0 _ _ hda) (s0 _ _ hwa) (hal.mono fun _ _ z => z.tups s0.tups) fun H' t b pl pm => k H' t (fun q o e => b q o (ne_of_none e nx) (s0 q o e)) pl pm
def PrW (H : Hp) (x : V) (r : Str × V) : Prop := ∃ p, x = .ref p ∧ H p = some (.tup [.str r.1, r.2])
theorem PrW.tups {H H' : Hp} {x : V} {r : Str × V} (h : PrW H x r) (s : Tups H H') : PrW H' x r := let ⟨p, e, h1⟩ := h; ⟨p, e, s _ _ h1⟩
def kP (rows : List (Str × V)) : List (Key × V) := rows.map fun r => ((Sum.inr r.1 : Key), r.2)
theorem kP_none {rows : List (Str × V)} {n : Str} (h : n ∉ rows.map (·.1)) : valV (kP rows) (Sum.inr n : Key) = none := by
  induction rows with
  | nil => rfl
  | cons a l ih =>
    show valV (((Sum.inr a.1 : Key), a.2) :: kP l) _ = _
    rw [List.map_cons, List.mem_cons, not_or] at h
    rw [valV_neg (p := ((Sum.inr a.1 : Key), a.2)) (fun z => h.1 (Sum.inr.inj z).symm)]
    exact ih h.2
theorem merge_kP : ∀ (l2 l1 : List (Str × V)), ((l1 ++ l2).map (·.1)).Nodup → mergeK (kP l1) (kP l2) = kP (l1 ++ l2)
  | [], l1, _ => by rw [List.append_nil]; rfl
  | r :: l2, l1, h => by
    show mergeK (putK (kP l1) (Sum.inr r.1) r.2) (kP l2) = _
    have h2 : ((l1 ++ [r] ++ l2).map (·.1)).Nodup := by rw [List.append_assoc]; exact h
    have hn : r.1 ∉ l1.map (·.1) := fun z => by
      rw [List.map_append, List.nodup_append] at h
      exact h.2.2 r.1 z r.1 List.mem_cons_self rfl
    have e : putK (kP l1) (Sum.inr r.1 : Key) r.2 = kP (l1 ++ [r]) := by
      unfold putK
      rw [if_neg (by rw [valV_any, kP_none hn]; decide)]
      unfold kP
      rw [List.map_append]; rfl
    rw [e, merge_kP l2 (l1 ++ [r]) h2, List.append_assoc]
    rfl
theorem kP_at {rows : List (Str × V)} {n : Str} {v : V} (hn : (rows.map (·.1)).Nodup) (h : (n, v) ∈ rows) : valV (kP rows) (Sum.inr n : Key) = some v := by
  obtain ⟨i, hi, e⟩ := List.mem_iff_getElem.mp h
  refine valV_at (i := i) ?_ ?_
  · unfold kP
    rw [List.map_map]
    have : (rows.map ((fun x : Key × V => x.1) ∘ fun r : Str × V => ((Sum.inr r.1 : Key), r.2))) = (rows.map (·.1)).map (Sum.inr : Str → Key) := by rw [List.map_map]; rfl
    rw [this]
    exact inr_nodup hn
  · unfold kP
    rw [List.getElem?_map, List.getElem?_eq_getElem hi, e]; rfl
theorem kP_kN {gs : List Str} {g : Str → Int} : kP (gs.map fun n => (n, V.int (g n))) = kN gs g := by
  unfold kP kN
  rw [List.map_map]; rfl
theorem prw_refs {G : Hp} : ∀ {xs : List V} {rows : List (Str × V)}, Al (PrW G) xs rows → ∃ ps : List Addr, xs = ps.map V.ref ∧ Paired (fun p kv => G p = some (.tup [kV kv.1, kv.2])) ps (kP rows)
  | [], [], _ => ⟨[], rfl, .nil⟩
  | [], _ :: _, h => by have := h.1; simp at this
  | _ :: _, [], h => by have := h.1; simp at this
  | x :: xs, r :: rows, h => by
    obtain ⟨p, rfl, hp⟩ := h.2 0 x r rfl rfl
    obtain ⟨ps, e, hps⟩ := prw_refs (xs := xs) (rows := rows) ⟨by have := h.1; simp at this; exact this, fun i y e hy he => h.2 (i + 1) y e (by simpa using hy) (by simpa using he)⟩
    exact ⟨p :: ps, by rw [e]; rfl, .cons hp hps⟩
theorem refs_prw {G : Hp} {rows : List (Str × V)} : ∀ {ps : List Addr} {kvs : List (Key × V)}, Paired (fun p kv => G p = some (.tup [kV kv.1, kv.2])) ps kvs → kvs = kP rows → Al (PrW G) (ps.map V.ref) rows := by
  induction rows with
  | nil => intro ps kvs h e; cases h with
    | nil => exact Al.nil
    | cons => cases e
  | cons r rows ih => intro ps kvs h e; cases h with
    | nil => cases e
    | cons h1 h2 =>
      have e' := List.cons.inj e
      obtain ⟨e1, e2⟩ := e'
      rw [List.map_cons]
      rw [e1] at h1
      exact (Al.one ⟨_, rfl, h1⟩).append (ih h2 e2)
theorem rd_dict {K : PySem.W.Frag} {G : Hp} {Q : VK} {c : Addr} {xs : List V} {rows : List (Str × V)} (hc : G c = some (.lst xs)) (hal : Al (PrW G) xs rows) (hn : (rows.map (·.1)).Nodup) (k : ∀ p G', Same G G' → G' p = some (.dK (kP rows)) → Q (.ref p) G') : rDictP K [.ref c] G Q := by
  obtain ⟨ps, rfl, hps⟩ := prw_refs hal
  refine ⟨c, ps, kP rows, rfl, SqL.of hc, paired_imp (fun _ _ z => SqT.of z) hps, fun p np => k p _ (same_upd np) ?_⟩
  have := merge_kP rows [] (by simpa using hn)
  rw [List.nil_append] at this
  rw [upd_same]
  exact congrArg (fun z => some (HO.dK z)) this
theorem BeatIs.keys {ks ks' : List Str} {d : Str → Int} {ws : List W3} {mv : Str → Int} (h : ∀ n, n ∈ ks ↔ n ∈ ks') {r : Option Int} (b : BeatIs ks d ws out mv r) : BeatIs ks' d ws out mv r := by
  cases r with
  | none => exact b
  | some m =>
    obtain ⟨h1, S, rank, h2, h3, h4, n, hn, e⟩ := b
    exact ⟨h1, S, rank, fun n hn => h2 n ((h n).mpr hn), h3, fun n hn => h4 n ((h n).mpr hn), n, (h n).mp hn, e⟩
theorem PM.beat0 {gs : List Str} {d : Str → Int} {ws : List W3} {t : PL} (m : PM gs d ws t) {mv : Str → Int} {r : Option Int} (h : BeatIs t.ks t.d t.ws out mv r) : BeatIs (gs ++ [out]) (dL d) ws out mv r := by
  have h2 := (h.congr m.td).keys fun n => m.perm.mem_iff
  rw [m.tw] at h2
  exact h2
theorem PM.rt0 {gs : List Str} {d : Str → Int} {ws : List W3} {t : PL} (m : PM gs d ws t) : Rt (gs ++ [out]) (dL d) ws out := by
  have r := m.rt
  have e := m.tw
  refine ⟨fun q hq => ?_, fun n hn => ?_, by unfold dL; rw [if_pos rfl], by simp, fun q hq => ?_, ?_⟩
  · obtain ⟨h1, h2⟩ := r.ends q (by rw [e]; exact hq)
    exact ⟨m.perm.mem_iff.mp h1, m.perm.mem_iff.mp h2⟩
  · have h1 := m.perm.mem_iff.mpr hn
    rw [← m.td n h1]; exact r.dpos n h1
  · exact r.hpos q (by rw [e]; exact hq)
  · have := r.rk
    rw [e] at this; exact this
theorem dL_scale {d : Str → Int} {c : Int} : dL (fun n => c * d n) = fun n => c * dL d n := by
  funext n
  unfold dL
  split
  · rw [Int.mul_zero]
  · rfl
/-- the beat under moves that are good for the least -/
theorem beat_eq {keys : List Str} {d : Str → Int} {ws : List W3} {b : Int} {f mv : Str → Int} (R : Rt keys d ws out) (hb : Best keys d ws out b f) (hg : Good ws d out mv b) {r : Option Int} (h : BeatIs keys d ws out mv r) : r = some b := by
  obtain ⟨m, rfl, hm⟩ := beat_of_good R hg hb.dle h
  have := hb.le R h
  congr 1
  omega
/-- moves at names alone -/
def mvK (ks : List Str) (f : Str → Int) (x : Str) : Int := if x ∈ ks then f x else 0
theorem mv_kN {H : Hp} {a : Addr} {ks : List Str} {f : Str → Int} (h : H a = some (.dK (kN ks f))) : MvAt H a (mvK ks f) := by
  refine ⟨_, h, fun x => ?_⟩
  by_cases hx : x ∈ ks
  · exact .inr (by rw [kN_get hx]; unfold mvK; rw [if_pos hx])
  · exact .inl ⟨kN_none hx, if_neg hx⟩
theorem mvK_rg {ks : List Str} {f : Str → Int} {ws : List W3} (hk : ∀ q ∈ ws, q.1 ∈ ks ∧ q.2.1 ∈ ks) : ∀ q ∈ ws, rg (mvK ks f) q = rg f q := fun q hq => by
  obtain ⟨h1, h2⟩ := hk q hq
  unfold rg mvK
  rw [if_pos h1, if_pos h2]
theorem Al.take {α : Type} {R : V → α → Prop} {xs : List V} {ds : List α} (h : Al R xs ds) (n : Nat) : Al R (xs.take n) (ds.take n) := by
  refine ⟨by rw [List.length_take, List.length_take, h.1], fun i x d a b => ?_⟩
  rw [List.getElem?_take] at a b
  split at a
  · rename_i hi
    rw [if_pos hi] at b
    exact h.2 i x d a b
  · cases a
theorem Al.drop {α : Type} {R : V → α → Prop} {xs : List V} {ds : List α} (h : Al R xs ds) (n : Nat) : Al R (xs.drop n) (ds.drop n) := by
  refine ⟨by rw [List.length_drop, List.length_drop, h.1], fun i x d a b => ?_⟩
  rw [List.getElem?_drop] at a b
  exact h.2 _ x d a b
theorem cut_takeN {xs : List V} {n : Nat} (h : n ≤ xs.length) : cutV xs none (some (n : Int)) = xs.take n := by
  unfold cutV
  rw [HT.sIx_nat, HT.sIx_none, List.drop_zero, Nat.sub_zero, Nat.min_eq_left h]
theorem cut_dropN {xs : List V} {n : Nat} (h : n ≤ xs.length) : cutV xs (some (n : Int)) none = xs.drop n := by
  unfold cutV
  rw [HT.sIx_nat, HT.sIx_none, Nat.min_eq_left h]
  exact List.take_of_length_le (by rw [List.length_drop]; exact Nat.le_refl _)
/-- one register more on one wire -/
def mw (a : Int) (i : Nat) : List W3 → List W3
  | [] => []
  | q :: r => (q.1, q.2.1, q.2.2 + if (i : Int) = a then 1 else 0) :: mw a (i + 1) r
theorem mw_snoc (a : Int) (i : Nat) (xs : List W3) (q : W3) : mw a i (xs ++ [q]) = mw a i xs ++ [(q.1, q.2.1, q.2.2 + if ((i + xs.length : Nat) : Int) = a then 1 else 0)] := by
  induction xs generalizing i with
  | nil => rfl
  | cons b xs ih => rw [List.cons_append]; unfold mw; rw [ih, List.length_cons, List.cons_append, show i + 1 + xs.length = i + (xs.length + 1) by omega]
theorem mw_len (a : Int) (i : Nat) (xs : List W3) : (mw a i xs).length = xs.length := by
  induction xs generalizing i with
  | nil => rfl
  | cons b xs ih => unfold mw; rw [List.length_cons, List.length_cons, ih]
theorem mw_mem {a : Int} {i : Nat} {xs : List W3} {l : W3} (h : l ∈ mw a i xs) : ∃ q ∈ xs, q.1 = l.1 ∧ q.2.1 = l.2.1 ∧ q.2.2 ≤ l.2.2 ∧ l.2.2 ≤ q.2.2 + 1 := by
  induction xs generalizing i with
  | nil => cases h
  | cons b xs ih =>
    unfold mw at h
    rcases List.mem_cons.mp h with rfl | h
    · refine ⟨b, List.mem_cons_self, rfl, rfl, ?_, ?_⟩ <;> dsimp only <;> split <;> omega
    · obtain ⟨q, h1, h2⟩ := ih h
      exact ⟨q, List.mem_cons_of_mem _ h1, h2⟩
def sw (q : W3) : W3 := (q.2.1, q.1, q.2.2)
def kG (keys : List Str) (g : Str → V) : List (Key × V) := keys.map fun n => ((Sum.inr n : Key), g n)
theorem kG_get {keys : List Str} {g : Str → V} {n : Str} (h : n ∈ keys) : valV (kG keys g) (Sum.inr n : Key) = some (g n) := by
  induction keys with
  | nil => cases h
  | cons a l ih =>
    show valV (((Sum.inr a : Key), g a) :: kG l g) _ = _
    by_cases e : a = n
    · subst e
      exact valV_pos (p := ((Sum.inr a : Key), g a)) rfl
    · rw [valV_neg (p := ((Sum.inr a : Key), g a)) (fun z => e (Sum.inr.inj z))]
      rcases List.mem_cons.mp h with z | z
      · exact absurd z.symm e
      · exact ih z
theorem kG_none {keys : List Str} {g : Str → V} {n : Str} (h : n ∉ keys) : valV (kG keys g) (Sum.inr n : Key) = none := by
  induction keys with
  | nil => rfl
  | cons a l ih =>
    show valV (((Sum.inr a : Key), g a) :: kG l g) _ = _
    rw [List.mem_cons, not_or] at h
    rw [valV_neg (p := ((Sum.inr a : Key), g a)) (fun z => h.1 (Sum.inr.inj z).symm)]
    exact ih h.2
theorem merge_kG : ∀ (l2 l1 : List Str) (g : Str → V), (l1 ++ l2).Nodup → mergeK (kG l1 g) (kG l2 g) = kG (l1 ++ l2) g
  | [], l1, g, _ => by rw [List.append_nil]; rfl
  | n :: l2, l1, g, h => by
    show mergeK (putK (kG l1 g) (Sum.inr n) (g n)) (kG l2 g) = _
    have h2 : (l1 ++ [n] ++ l2).Nodup := by rw [List.append_assoc]; exact h
    have hn : n ∉ l1 := fun z => by
      rw [List.nodup_append] at h
      exact h.2.2 n z n List.mem_cons_self rfl
    have e : putK (kG l1 g) (Sum.inr n : Key) (g n) = kG (l1 ++ [n]) g := by
      unfold putK
      rw [if_neg (by rw [valV_any, kG_none hn]; decide)]
      unfold kG
      rw [List.map_append]; rfl
    rw [e, merge_kG l2 (l1 ++ [n]) g h2, List.append_assoc]
    rfl
theorem merge_kN0 {keys : List Str} {d : Str → Int} (h : keys.Nodup) : mergeK [] (kN keys d) = kN keys d := by
  have := merge_kN keys [] d (by simpa using h)
  rw [List.nil_append] at this
  exact this
def nz (x : Str) : Str := if x = out then out else x ++ "z"
def unz (gs : List Str) (x : Str) : Str := (gs.find? fun n => decide (nz n = x)).getD out
end PN
/-! What shows a beat: closed walks and cuts -/
namespace PN
section
variable {α : Type} [DecidableEq α]
abbrev W3a (α : Type) : Type := α × α × Int
/-- wires one behind the other -/
def Lk : α → List (W3a α) → α → Prop
  | u, [], z => u = z
  | u, q :: r, z => q.1 = u ∧ Lk q.2.1 r z
theorem Lk.app : ∀ {qs qs' : List (W3a α)} {u z y : α}, Lk u qs z → Lk z qs' y → Lk u (qs ++ qs') y
  | [], _, u, z, y, h, h' => by have : u = z := h; subst this; exact h'
  | q :: r, _, _, _, _, h, h' => ⟨h.1, Lk.app h.2 h'⟩
theorem Lk.step : ∀ {qs : List (W3a α)} {u z : α}, Lk u qs z → ∀ (j : Nat) q, qs[j]? = some q → (j = 0 ∧ q.1 = u) ∨ ∃ i q', j = i + 1 ∧ qs[i]? = some q' ∧ q'.2.1 = q.1
  | [], _, _, _, j, q, h => by simp at h
  | a :: r, u, z, hl, 0, q, h => by simp at h; subst h; exact .inl ⟨rfl, hl.1⟩
  | a :: r, u, z, hl, j + 1, q, h => by
    have h' : r[j]? = some q := by simpa using h
    rcases Lk.step hl.2 j q h' with ⟨rfl, e⟩ | ⟨i, q', rfl, e1, e2⟩
    · exact .inr ⟨0, a, rfl, rfl, e.symm⟩
    · exact .inr ⟨i + 1, q', rfl, by simpa using e1, e2⟩
theorem Lk.last : ∀ {qs : List (W3a α)} {u z : α}, Lk u qs z → ∀ q, qs.getLast? = some q → q.2.1 = z
  | [], _, _, _, q, h => by simp at h
  | [a], _, _, hl, q, h => by simp at h; subst h; exact hl.2
  | a :: b :: r, _, _, hl, q, h => Lk.last (qs := b :: r) hl.2 q (by rw [List.getLast?_cons_cons] at h; exact h)
/-- the wires at places -/
def Ats (ws : List (W3a α)) (p : List Nat) (qs : List (W3a α)) : Prop := p.length = qs.length ∧ ∀ (j i : Nat) q, p[j]? = some i → qs[j]? = some q → ws[i]? = some q
theorem Ats.nil {ws : List (W3a α)} : Ats ws [] [] := ⟨rfl, fun j i q h => by simp at h⟩
theorem Ats.cons {ws : List (W3a α)} {p : List Nat} {qs : List (W3a α)} (h : Ats ws p qs) {i : Nat} {q : W3a α} (hq : ws[i]? = some q) : Ats ws (i :: p) (q :: qs) := by
  refine ⟨by simp [h.1], fun j i' q' h1 h2 => ?_⟩
  cases j with
  | zero => simp at h1 h2; subst h1; subst h2; exact hq
  | succ j => exact h.2 j i' q' (by simpa using h1) (by simpa using h2)
theorem Ats.app {ws : List (W3a α)} {p p' : List Nat} {qs qs' : List (W3a α)} (h : Ats ws p qs) (h' : Ats ws p' qs') : Ats ws (p ++ p') (qs ++ qs') := by
  refine ⟨by simp [h.1, h'.1], fun j i q h1 h2 => ?_⟩
  have e := h.1
  by_cases c : j < p.length
  · rw [List.getElem?_append_left c] at h1
    rw [List.getElem?_append_left (by omega)] at h2
    exact h.2 j i q h1 h2
  · rw [List.getElem?_append_right (by omega)] at h1
    rw [List.getElem?_append_right (by omega), ← e] at h2
    exact h'.2 _ i q h1 h2
variable {ws : List (W3a α)} {d : α → Int} {M : α → Prop}
/-- what a walk is, wire by wire -/
theorem Wk.seg {u z : α} {p : List Nat} {h D : Int} (w : Wk ws d M u p z h D) : ∃ q qs, Ats ws p (q :: qs) ∧ Lk u (q :: qs) z ∧ (∀ x ∈ qs, M x.1) ∧ (((q :: qs).map fun x => d x.1).sum + d z = D) ∧ ((q :: qs).map fun x => x.2.2).sum = h := by
  induction w with
  | @one i q hq => exact ⟨q, [], Ats.nil.cons hq, ⟨rfl, rfl⟩, (fun x h => (nomatch h)), by simp, by simp⟩
  | @cons i q is z h D h0 hm r ih =>
    obtain ⟨q2, qs, a1, a2, a3, a4, a5⟩ := ih
    refine ⟨q, q2 :: qs, a1.cons h0, ⟨rfl, a2⟩, fun x hx => ?_, ?_, ?_⟩
    · rcases List.mem_cons.mp hx with rfl | hx
      · rw [a2.1]; exact hm
      · exact a3 x hx
    · rw [List.map_cons, List.sum_cons]; omega
    · rw [List.map_cons, List.sum_cons, a5]
def sumH (r : List (LM α)) : Int := (r.map LM.h).sum
def cntK : List (LM α) → Nat
  | [] => 0
  | l :: r => (if l.k = true then 1 else 0) + cntK r
theorem most_sum : ∀ r : List (LM α), mostSum r = sumH r - cntK r
  | [] => rfl
  | l :: r => by
    have ih := most_sum r
    unfold mostSum sumH at *
    unfold cntK
    rw [List.map_cons, List.sum_cons, List.map_cons, List.sum_cons, ih]
    unfold LM.most
    split <;> omega
/-- a closed walk of a ring of limits -/
theorem ring_walk {out : α} {b : Int} {rs : List (LM α)} (hw : ∀ l ∈ rs, l.k = false → ∃ (i : Nat) (q : W3a α), l.p = [i] ∧ ws[i]? = some q ∧ l.b = q.1 ∧ l.z = q.2.1 ∧ l.h = q.2.2) (hk : ∀ l ∈ rs, l.k = true → Wk ws d (fun x => x ≠ out) l.b l.p l.z l.h l.D ∧ b ≤ l.D) :
    Chain rs → ∀ l e, rs.head? = some l → rs.getLast? = some e → ∃ qs, Ats ws (rs.flatMap LM.p) qs ∧ qs ≠ [] ∧ Lk l.b qs e.z ∧ (qs.map fun x => x.2.2).sum = sumH rs := by
  induction rs with
  | nil => intro _ l e h; simp at h
  | cons a rs ih =>
    intro hc l e h1 h2
    simp at h1
    subst h1
    have seg : ∃ q qs, Ats ws a.p (q :: qs) ∧ Lk a.b (q :: qs) a.z ∧ ((q :: qs).map fun x => x.2.2).sum = a.h := by
      cases e : a.k with
      | false =>
        obtain ⟨i, q, e1, e2, e3, e4, e5⟩ := hw a List.mem_cons_self e
        rw [e1]
        exact ⟨q, [], Ats.nil.cons e2, ⟨e3.symm, e4.symm⟩, by simp [e5]⟩
      | true =>
        obtain ⟨w, _⟩ := hk a List.mem_cons_self e
        obtain ⟨q, qs, a1, a2, _, _, a5⟩ := w.seg
        exact ⟨q, qs, a1, a2, a5⟩
    obtain ⟨q, qs, a1, a2, a5⟩ := seg
    cases rs with
    | nil =>
      simp at h2; subst h2
      exact ⟨q :: qs, by simpa using a1, by simp, a2, by unfold sumH; simp; simpa using a5⟩
    | cons a' rs =>
      obtain ⟨qs', b1, b2, b3, b4⟩ := ih (fun l hl => hw l (List.mem_cons_of_mem _ hl)) (fun l hl => hk l (List.mem_cons_of_mem _ hl)) hc.2 a' e rfl (by rw [List.getLast?_cons_cons] at h2; exact h2)
      refine ⟨(q :: qs) ++ qs', ?_, by simp, ?_, ?_⟩
      · rw [List.flatMap_cons]; exact a1.app b1
      · rw [hc.1] at a2; exact a2.app b3
      · rw [List.map_append, List.sum_append, a5, b4]; unfold sumH; rfl
end
end PN
/-! a chain of three comparisons, as a test -/
namespace LayT
open PySem PySem.Spec PyProof.Rows L2
section
variable {X : Cx} {a b c d : Expr} {ta tb tc td : TE} {pos : Pos}
def tChainT3 (r r' r'' : R2) (ta tb tc td : TE) : TT := fun σ H Q => ta σ H fun x H1 => tb σ H1 fun y H2 => r x y H2 fun z H3 => ∃ k, z = .bl k ∧
  (if k = true then tc σ H3 fun w H4 => r' y w H4 fun z2 H5 => ∃ k2, z2 = .bl k2 ∧ (if k2 = true then td σ H5 fun u H6 => r'' w u H6 fun z3 H7 => ∃ k3, z3 = .bl k3 ∧ Q k3 H7 else Q false H5) else Q false H3)
theorem pt_chain3 {op op' op'' : CmpOp} {r r' r'' : R2} (ho : OpR X (compareOp op) r) (ho' : OpR X (compareOp op') r') (ho'' : OpR X (compareOp op'') r'') (ha : PE X a ta) (hb : PE X b tb) (hc : PE X c tc) (hd : PE X d td)
    (hm : lastMarks [op, op', op''] [b, c, d] = false := by with_unfolding_all rfl) : PT X (.Compare a [op, op', op''] [b, c, d] pos) (tChainT3 r r' r'' ta tb tc td) := by
  refine ⟨fun pins s σ H Q I h => ?_⟩
  refine isTrue_chain (thn (ha.run pins s σ H _ I h) fun v s1 ⟨x, H1, I1, r1, q1⟩ => test_link (thn (hb.run pins s1 σ H1 _ I1 q1) fun u s2 ⟨y, H2, I2, r2, q2⟩ =>
    thn (ho pins s2 σ H2 x y v u _ I2 r1 r2 q2) fun e s3 ⟨z, H3, I3, r3, k, ek, q3⟩ => ?_)) hm
  subst ek
  cases r3
  refine wpAny_truthy_bool ?_
  cases k with
  | false => exact ite_ff ⟨H3, I3, q3⟩
  | true =>
    refine ite_tt (test_link (thn (hc.run pins s3 σ H3 _ I3 q3) fun w s4 ⟨y2, H4, I4, r4, q4⟩ => thn (ho' pins s4 σ H4 y y2 u w _ I4 r2 r4 q4) fun e2 s5 ⟨z2, H5, I5, r5, k2, ek2, q5⟩ => ?_))
    subst ek2
    cases r5
    refine wpAny_truthy_bool ?_
    cases k2 with
    | false => exact ite_ff ⟨H5, I5, q5⟩
    | true =>
      refine ite_tt (test_last (thn (hd.run pins s5 σ H5 _ I5 q5) fun w3 s6 ⟨y3, H6, I6, r6, q6⟩ => thn (ho'' pins s6 σ H6 y2 y3 w w3 _ I6 r4 r6 q6) fun e3 s7 ⟨z3, H7, I7, r7, k3, ek3, q7⟩ => ?_))
      subst ek3
      cases r7
      exact wpAny_truthy_bool ⟨H7, I7, q7⟩
end
end LayT
namespace PN
open PySem PySem.Spec PyProof.Rows L2 LayT
def rLenS (K : PySem.W.Frag) : List V → Hp → VK → Prop := fun xs H Q => ∃ p ys, xs = [.ref p] ∧ (SqL K H p ys ∨ SqT K H p ys) ∧ Q (.int ys.length) H
theorem lenSK {X : Cx} (K : PySem.W.Frag) (h : X.K = K := by rfl) : CallR X (.builtin "len") (rLenS K) := h ▸ call_len_seq
theorem allTrue {α : Type} {l : List α} : ((l.map fun _ => true).all id) = true := by
  rw [List.all_eq_true]
  intro b hb
  obtain ⟨_, _, rfl⟩ := List.mem_map.mp hb
  rfl
theorem iV_at {l : List Nat} {i : Nat} {y : V} (h : (iV l)[i]? = some y) : ∃ n, l[i]? = some n ∧ y = .int ((n : Nat) : Int) := map_at h
/-- a closed walk -/
structure WalkIs (ws : List W3) (wk : List Nat) (qs : List W3) (u : Str) : Prop where
  at_ : Ats ws wk qs
  ne : qs ≠ []
  lk : Lk u qs u
theorem WalkIs.len {ws : List W3} {wk : List Nat} {qs : List W3} {u : Str} (h : WalkIs ws wk qs u) : wk.length = qs.length := h.at_.1
theorem Ats.at {ws : List W3} {wk : List Nat} {qs : List W3} (h : Ats ws wk qs) {j i : Nat} (hj : wk[j]? = some i) : ∃ q, qs[j]? = some q ∧ ws[i]? = some q := by
  have hl := (List.getElem?_eq_some_iff.mp hj).1
  have h2 : j < qs.length := by rw [← h.1]; exact hl
  exact ⟨qs[j], List.getElem?_eq_getElem h2, h.2 j i _ hj (List.getElem?_eq_getElem h2)⟩
def Apart (last : Nat) : List Cut1 → Nat → Prop
  | [], n => last ≤ n
  | .inl _ :: _, _ => False
  | .inr (a, b) :: r, n => last ≤ a ∧ a < b ∧ b ≤ n ∧ Apart b r n
section
variable {P : Program} {w : World} {K : PySem.W.Frag} {mg : Str → Option Value} {base : Heap} {C CP CL CF CB CN : Addr}
/-! ### is_walk -/
def spIsWalk (C : Addr) : Sp := fun vs H Q _ => ∃ (p l : Addr) (t : PL) (wk : List Nat) (qs : List W3) (u : Str), vs = [.ref p, .ref l] ∧ PlAt C H p t ∧ H l = some (.lst (iV wk)) ∧ wk.length ≤ 1000000 ∧ WalkIs t.ws wk qs u ∧ ∀ H', Same H H' → Q (.bl true) H'
abbrev nIsWalk : List Str := ["plan", "walk", "wires", "place", "at", "wire"]
theorem scIsWalk : FnScope nIsWalk ["plan", "walk"] (defScope sIsWalk) := ⟨rfl, rfl, rfl, by decide +kernel, rfl, by decide +kernel, by decide +kernel⟩
theorem ok_iswalk {fN f : Addr} {fdN fd : FuncData} (F : Fun K "is_walk" "is_walk" sIsWalk f fd) (T : Txt K mg) (TP : TxtP K mg C) (DN : Dfn P w K mg base "is_number" 1 ["thing"] spNum fN fdN) : FnOk P w K mg base CX0 2 f fd ["plan", "walk"] (spIsWalk C) := by
  refine F.ok scIsWalk (fun vs H Q E h => ?_) (fun cdv A outer s H vs Q E hr h => ?_)
  · obtain ⟨p, l, t, wk, qs, u, rfl, _⟩ := h
    rfl
  obtain ⟨p, l, t, wk, qs, u, rfl, hp, hl, hwk, hW, k⟩ := h
  have nd := scIsWalk.nd
  have hu := hu_of hr
  refine ⟨_, pss_cons (ps_if (pt_not (pt_val (pe_callB (cr_all rfl) (by rfl) T.all (by decide +kernel) (pa_cons
        (pe_lc (own := [("place", 3)]) (g := gName 3) (by rfl) nd (pi_list (pv 1)) (blkOk_by (N := nIsWalk) (sc := defScope sIsWalk) (by decide +kernel))
          (fun _ _ _ _ _ => pg_name (i := 3) nd rfl (.inl rfl)) (fun _ _ _ _ _ => pts_nil)
          (fun _ _ _ _ _ => pe_and (pcl DN hr (pa_cons (pv 3) pa_nil)) (pe_one (pe_chain op_le op_lt pe_int (pv 3) (pe_callB (lenSK K) (by rfl) T.len PySem.boot_len (pa_cons (pfd K (pv 0)) pa_nil)))))) pa_nil)))) (pss_one (ps_ret pe_bl)) pss_nil)
    (Evl.pss_cut (ps_set (i := 2) nd rfl (.inr rfl) (pe_lc (own := [("place", 3)]) (g := gName 3) (by rfl) nd (pi_list (pv 1)) (blkOk_by (N := nIsWalk) (sc := defScope sIsWalk) (by decide +kernel))
        (fun _ _ _ _ _ => pg_name (i := 3) nd rfl (.inl rfl)) (fun _ _ _ _ _ => pts_nil) (fun _ _ _ _ _ => pe_ix (ixT K) (pfd K (pv 0)) (pv 3) (fun _ _ => rfl))))
    (pss_one (ps_ret (pe_callB (cr_all rfl) (by rfl) T.all (by decide +kernel) (pa_cons
        (pe_lc (own := [("at", 4), ("wire", 5)]) (by rfl) nd (pi_enum (by rfl) T.enumerate (pa_cons (pv 2) pa_nil)) (blkOk_by (N := nIsWalk) (sc := defScope sIsWalk) (by decide +kernel))
          (fun _ _ _ _ _ => pgT2 K 4 5 nd) (fun _ _ _ _ _ => pts_nil)
          (fun _ _ _ _ _ => pe_cmpR op_eq (pe_ix (ixT K) (pe_ix (ixL K) (pv 2) (pe_op op_sub (pv 4) pe_int) (fun _ _ => rfl)) pe_int (fun _ _ => rfl)) (pe_ix (ixT K) (pv 5) pe_int (fun _ _ => rfl)) (nomark _))) pa_nil))))), ?_⟩
  obtain ⟨dx, da, wa, xs, h1, h2, h3, h4⟩ := id hp
  have hxl := h4.1
  have hrow : ∀ {j i : Nat}, wk[j]? = some i → ∃ q a, qs[j]? = some q ∧ xs[i]? = some (.ref a) ∧ H a = some (.tup [.str q.1, .str q.2.1, .int q.2.2]) ∧ i < xs.length := fun {j i} hj => by
    obtain ⟨q, hq, hw⟩ := hW.at_.at hj
    obtain ⟨x, hx, a, rfl, ha⟩ := h4.at' hw
    exact ⟨q, a, hq, hx, ha, (List.getElem?_eq_some_iff.mp hx).1⟩
  refine ⟨_, rfl, l, rfl, ⟨_, SqL.of hl⟩, fun c nc => lc_it (walk_list (K := K) (a := l) (xs := iV wk)) (fun j G => Same H G ∧ G c = some (.lst (((wk.take j).map fun _ => true).map V.bl)))
    ⟨same_upd nc, upd_same⟩ (fun j G _ hh => SqL.of (hh.1 _ _ hl)) ?_ ?_⟩
  · rintro j y G G' hj ⟨sG, gc⟩ ⟨eH, ey⟩
    obtain rfl : G = G' := eH.symm
    obtain ⟨i, hi, rfl⟩ := iV_at ey
    obtain ⟨q, a, hq, hx, ha, hil⟩ := hrow hi
    refine ⟨rfl, _, rfl, _, .int ((i : Nat) : Int), rfl, (by unfold DAt; rfl), _, rfl, iteT ?_⟩
    refine ⟨_, rfl, _, _, rfl, rfl, _, rfl, ?_⟩
    rw [decide_eq_true (show (0 : Int) ≤ ((i : Nat) : Int) by omega)]
    refine iteT ⟨_, rfl, p, C, dx, _, _, rfl, sG _ _ h1, TP.cl, TP.nW, fld_w, wa, xs, rfl, .inr (SqT.of (sG _ _ h3)), _, _, rfl, rfl, ?_⟩
    refine ⟨_, gc, ?_, sG.mut nc, ?_⟩
    · rw [List.length_map, List.length_map, List.length_take]; exact szlM (by omega)
    · have e0 : decide (((i : Nat) : Int) < ((xs.length : Nat) : Int)) = true := decide_eq_true (by omega)
      rw [upd_same]
      show some (HO.lst (_ ++ [V.bl (decide (((i : Nat) : Int) < ((xs.length : Nat) : Int)))])) = _
      rw [e0, map_take_succ hi, List.map_append]; rfl
  rintro G1 ⟨s1, g1⟩
  have eiv : (iV wk).length = wk.length := iV_len
  rw [eiv, List.take_length] at g1
  refine ⟨c, _, rfl, SqL.of g1, _, rfl, ?_⟩
  rw [allTrue]
  refine iteF ?_
  refine ⟨fun σ' G => ∃ (wl : Addr) (ys : List V), σ' = [some (.ref p), some (.ref l), some (.ref wl), none, none, none] ∧ Same H G ∧ G wl = some (.lst ys) ∧ Al (WAt G) ys qs, ?_, ?_⟩
  · refine ⟨_, rfl, l, rfl, ⟨_, SqL.of (s1 _ _ hl)⟩, fun c2 nc2 => lc_it (walk_list (K := K) (a := l) (xs := iV wk)) (fun j G => ∃ ys, Same G1 G ∧ G c2 = some (.lst ys) ∧ Al (WAt G1) ys (qs.take j))
      ⟨[], same_upd nc2, upd_same, Al.nil⟩ (fun j G _ hh => by obtain ⟨_, h, _⟩ := hh; exact SqL.of (h _ _ (s1 _ _ hl))) ?_ ?_⟩
    · rintro j y G G' hj ⟨ys, sG, gc, hys⟩ ⟨eH, ey⟩
      obtain rfl : G = G' := eH.symm
      obtain ⟨i, hi, rfl⟩ := iV_at ey
      obtain ⟨q, a, hq, hx, ha, hil⟩ := hrow hi
      have hyl := hys.1
      rw [List.length_take] at hyl
      have hjl := (List.getElem?_eq_some_iff.mp hi).1
      refine ⟨rfl, _, rfl, p, C, dx, _, _, rfl, sG _ _ (s1 _ _ h1), TP.cl, TP.nW, fld_w, _, rfl, wa, xs, _, _, rfl, rfl, SqT.of (sG _ _ (s1 _ _ h3)), atI_nat hx, ?_⟩
      refine ⟨ys, gc, szlM (by omega), ys ++ [.ref a], sG.mut nc2, upd_same, ?_⟩
      rw [take_succ_at hq]
      exact hys.snoc ⟨a, rfl, s1 _ _ ha⟩
    · rintro G ⟨ys, sG, gc, hys⟩
      rw [eiv, hW.len, List.take_length] at hys
      exact ⟨c2, ys, rfl, s1.trans sG, gc, hys.mono fun _ _ z => z.tups sG.tups⟩
  rintro σ' G2 ⟨wl, ys, rfl, s2, gw, hys⟩
  have hyl := hys.1
  have hql : qs.length = wk.length := hW.len.symm
  have hpos : 0 < qs.length := List.length_pos_iff.mpr hW.ne
  refine ⟨_, rfl, wl, ys, rfl, SqL.of gw, fun c3 nc3 => lc_it (walk_enum (K := K) (a := wl) (xs := ys)) (fun j G => Same G2 G ∧ G c3 = some (.lst (((ys.take j).map fun _ => true).map V.bl)))
    ⟨same_upd nc3, upd_same⟩ (fun j G _ hh => SqL.of (hh.1 _ _ gw)) ?_ ?_⟩
  · rintro j y G G' hj ⟨sG, gc⟩ ⟨Tt, x1, x2, rfl, nT, rfl, e1, e2⟩
    cases e1
    obtain ⟨q, hq, a, rfl, ha⟩ := hys.at e2
    have hjl : j < ys.length := hj
    have sT := same_upd (o := HO.tup [V.int (j : Nat), V.ref a]) nT
    have hTt : upd G Tt (.tup [V.int (j : Nat), V.ref a]) Tt = some (.tup [V.int (j : Nat), V.ref a]) := upd_same
    generalize upd G Tt (.tup [V.int (j : Nat), V.ref a]) = GZ at sT hTt ⊢
    have sX := sG.trans sT
    -- the wire ahead
    obtain ⟨x', q', a', hx', hq', ha', e'⟩ : ∃ (x' : V) (q' : W3) (a' : Addr), atI ys ((j : Nat) - 1 : Int) = some x' ∧ x' = .ref a' ∧ G2 a' = some (.tup [.str q'.1, .str q'.2.1, .int q'.2.2]) ∧ q'.2.1 = q.1 := by
      rcases hW.lk.step j q hq with ⟨rfl, e⟩ | ⟨i, q', rfl, h5, h6⟩
      · obtain ⟨qi, ql, hqe⟩ := List.eq_nil_or_concat qs |>.resolve_left hW.ne
        rw [List.concat_eq_append] at hqe
        obtain ⟨zs, z, hz1, hz2, a', hz3, hz4⟩ := hys.split hqe
        refine ⟨z, ql, a', ?_, hz3, hz4, ?_⟩
        · rw [hz1]; exact atI_last _ _
        · have := hW.lk.last ql (by rw [hqe]; simp)
          rw [this, e]
      · obtain ⟨x', hx', a', e3, h7⟩ := hys.at' h5
        exact ⟨x', q', a', atI_mid (j := i) (by omega) hx', e3, h7, h6⟩
    subst hq'
    refine ⟨Tt, _, rfl, SqT.of hTt, rfl, _, _, rfl, _, _, rfl, rfl, rfl, ?_⟩
    refine ⟨_, rfl, _, rfl, _, _, rfl, rfl, wl, ys, _, _, rfl, rfl, SqL.of (sX _ _ gw), hx', a', _, 1, _, rfl, rfl, SqT.of (sX _ _ ha'), at1, _, rfl, a, _, 0, _, rfl, rfl, SqT.of (sX _ _ ha), at0, rfl, ?_⟩
    refine ⟨_, sT _ _ gc, ?_, sX.mut nc3, ?_⟩
    · rw [List.length_map, List.length_map, List.length_take]; exact szlM (by omega)
    · have e0 : decide (V.str q'.2.1 = V.str q.1) = true := by rw [dec_str, e']; exact decide_eq_true rfl
      rw [upd_same]
      show some (HO.lst (_ ++ [V.bl (decide (V.str q'.2.1 = V.str q.1))])) = _
      rw [e0, map_take_succ e2, List.map_append]; rfl
  rintro G3 ⟨s3, g3⟩
  rw [List.take_length] at g3
  refine ⟨c3, _, rfl, SqL.of g3, ?_⟩
  rw [allTrue]
  exact k G3 (s2.trans s3)
end
end PN
namespace PN
open PySem PySem.Spec PyProof.Rows L2 LayT
theorem cut_mid {xs : List V} {a b : Nat} (h : a ≤ b) (h2 : b ≤ xs.length) : cutV xs (some (a : Int)) (some (b : Int)) = (xs.drop a).take (b - a) := by
  unfold cutV
  rw [HT.sIx_nat, HT.sIx_nat, Nat.min_eq_left h2, Nat.min_eq_left (show a ≤ xs.length by omega)]
theorem tyTup {K : PySem.W.Frag} {H : Hp} {t : Addr} {xs : List V} (h : H t = some (.tup xs)) : TyX K H (.ref t) (.type "tuple") := .base (.tup h)
theorem tyStr {K : PySem.W.Frag} {H : Hp} {s : Str} : TyX K H (.str s) (.type "str") := .base (.str s)
section
variable {P : Program} {w : World} {K : PySem.W.Frag} {mg : Str → Option Value} {base : Heap} {C CP CL CF CB CN : Addr}
/-! ### are_apart -/
def spApart : Sp := fun vs H Q _ => ∃ (l : Addr) (xs : List V) (cs : List Cut1) (n : Nat), vs = [.ref l, .int ((n : Nat) : Int)] ∧ H l = some (.lst xs) ∧ Al (CutAt H) xs cs ∧ xs.length ≤ 1000 ∧ Apart 0 cs n ∧ ∀ H', Same H H' → Q (.bl true) H'
abbrev nApart : List Str := ["cuts", "many", "last", "cut", "place"]
theorem scApart : FnScope nApart ["cuts", "many"] (defScope sApart) := ⟨rfl, rfl, rfl, by decide +kernel, rfl, by decide +kernel, by decide +kernel⟩
theorem ok_apart {fN f : Addr} {fdN fd : FuncData} (F : Fun K "are_apart" "are_apart" sApart f fd) (T : Txt K mg) (DN : Dfn P w K mg base "is_number" 1 ["thing"] spNum fN fdN) : FnOk P w K mg base CX0 2 f fd ["cuts", "many"] spApart := by
  refine F.ok scApart (fun vs H Q E h => ?_) (fun cdv A outer s H vs Q E hr h => ?_)
  · obtain ⟨l, xs, cs, n, rfl, _⟩ := h
    rfl
  obtain ⟨l, xs, cs, n, rfl, hl, hx, hxl, hA, k⟩ := h
  have nd := scApart.nd
  have hu := hu_of hr
  refine ⟨_, pss_cons (ps_set (i := 2) nd rfl (.inl rfl) pe_int)
    (pss_cons (ps_for PassesOwn.never rfl (pi_list (pv 0)) (pg_name (i := 3) nd rfl (.inl rfl))
      (Evl.pss_cut (ps_if (PW.pt (pw_or (pt_not (pt_val (pe_callB call_isi (by rfl) T.isinst (by decide +kernel) (pa_cons (pv 3) (pa_cons (pe_bltn (v := .ty "tuple") (by rfl) T.tuple (by decide +kernel) rfl) pa_nil)))))
          (pw_or (pt_cmpR op_ne (pe_callB call_len_seq (by rfl) T.len PySem.boot_len (pa_cons (pv 3) pa_nil)) pe_int (nomark _))
          (pw_or1 (pt_not (pt_val (pe_callB (cr_all rfl) (by rfl) T.all (by decide +kernel) (pa_cons
            (pe_lc (own := [("place", 4)]) (g := gName 4) (by rfl) nd (pi_tup (pv 3)) (blkOk_by (N := nApart) (sc := defScope sApart) (by decide +kernel))
              (fun _ _ _ _ _ => pg_name (i := 4) nd rfl (.inl rfl)) (fun _ _ _ _ _ => pts_nil) (fun _ _ _ _ _ => pcl DN hr (pa_cons (pv 4) pa_nil))) pa_nil)))))))) (pss_one (ps_ret pe_bl)) pss_nil)
      (pss_cons (ps_if (pt_not (pt_chain3 op_le op_lt op_le (pv 2) (pe_ix (ixT K) (pv 3) pe_int (fun _ _ => rfl)) (pe_ix (ixT K) (pv 3) pe_int (fun _ _ => rfl)) (pv 1))) (pss_one (ps_ret pe_bl)) pss_nil)
      (pss_one (ps_set (i := 2) nd rfl (.inl rfl) (pe_ix (ixT K) (pv 3) pe_int (fun _ _ => rfl)))))))
    (pss_one (ps_ret pe_bl))), ?_⟩
  refine ⟨_, rfl, l, rfl, ⟨_, SqL.of hl⟩, for_it (walk_list (K := K) (a := l) (xs := xs)) (fun j σ' G => ∃ (last : Nat) (o3 : Option V), σ' = [some (.ref l), some (.int ((n : Nat) : Int)), some (.int ((last : Nat) : Int)), o3, none] ∧ Same H G ∧ Apart last (cs.drop j) n)
    ⟨0, none, rfl, Same.refl H, hA⟩ (fun j σ' G _ hh => by obtain ⟨_, _, _, h, _⟩ := hh; exact SqL.of (h _ _ hl)) ?_ ?_⟩
  · rintro j y σ' G G' hj ⟨last, o3, rfl, sG, hap⟩ ⟨eH, ey⟩
    obtain rfl : G = G' := eH.symm
    obtain ⟨c, hc, hca⟩ := hx.at ey
    have hcl := (List.getElem?_eq_some_iff.mp hc).1
    have hd : cs.drop j = c :: cs.drop (j + 1) := by
      rw [List.drop_eq_getElem_cons hcl]
      congr 1
      exact (List.getElem?_eq_some_iff.mp hc).2
    rw [hd] at hap
    cases c with
    | inl s => exact hap.elim
    | inr ab =>
    obtain ⟨a, b⟩ := ab
    obtain ⟨t, rfl, ht⟩ := hca
    obtain ⟨p1, p2, p3, p4⟩ := hap
    have htG := sG _ _ ht
    refine ⟨fun σ' G2 => σ' = [some (.ref l), some (.int ((n : Nat) : Int)), some (.int ((last : Nat) : Int)), some (.ref t), none] ∧ Same G G2, ?_, ?_⟩
    · refine ⟨_, rfl, .ref t, .ty "tuple", .type "tuple", .type "tuple", true, rfl, .ty "tuple", tyTup htG, kit_ty (by decide +kernel), true, rfl, iteF ?_⟩
      refine ⟨_, rfl, t, _, rfl, .inr (SqT.of htG), rfl, false, rfl, iteF ?_⟩
      refine ⟨_, rfl, t, rfl, ⟨_, SqT.of htG⟩, fun cl ncl => lc_it (walk_tup (K := K) (a := t) (xs := [V.int ((a : Nat) : Int), V.int ((b : Nat) : Int)])) (fun i G2 => Same G G2 ∧ G2 cl = some (.lst ((([a, b].take i).map fun _ => true).map V.bl)))
        ⟨same_upd ncl, upd_same⟩ (fun i G2 _ hh => SqT.of (hh.1 _ _ htG)) ?_ ?_⟩
      · rintro i y G2 G3 hi ⟨s2, gc⟩ ⟨eG, hy⟩
        obtain rfl : G2 = G3 := eG.symm
        have hab : ∃ m : Nat, [a, b][i]? = some m ∧ y = .int ((m : Nat) : Int) := map_at (g := fun m : Nat => V.int ((m : Nat) : Int)) (l := [a, b]) hy
        obtain ⟨m, hm, rfl⟩ := hab
        have hi2 : i < 2 := (List.getElem?_eq_some_iff.mp hm).1
        refine ⟨rfl, _, rfl, .int ((m : Nat) : Int), .int ((m : Nat) : Int), rfl, (by unfold DAt; rfl), _, gc, ?_, s2.mut ncl, ?_⟩
        · rw [List.length_map, List.length_map, List.length_take]; exact szl (by omega)
        · rw [upd_same, map_take_succ hm, List.map_append]; rfl
      · rintro G2 ⟨s2, gc⟩
        refine ⟨cl, ([a, b].map fun _ => true), rfl, SqL.of gc, _, rfl, ?_⟩
        rw [allTrue]
        exact iteF ⟨rfl, s2⟩
    rintro σ' G2 ⟨rfl, s2⟩
    have ht2 := s2 _ _ htG
    refine ⟨_, rfl, .ref t, rfl, t, _, 0, _, rfl, rfl, SqT.of ht2, at0, _, _, rfl, rfl, _, rfl, ?_⟩
    rw [decide_eq_true (show ((last : Nat) : Int) ≤ ((a : Nat) : Int) by omega)]
    refine iteT ⟨_, rfl, t, _, 1, _, rfl, rfl, SqT.of ht2, at1, _, _, rfl, rfl, _, rfl, ?_⟩
    rw [decide_eq_true (show ((a : Nat) : Int) < ((b : Nat) : Int) by omega)]
    refine iteT ⟨_, rfl, _, _, rfl, rfl, _, rfl, ?_⟩
    rw [decide_eq_true (show ((b : Nat) : Int) ≤ ((n : Nat) : Int) by omega)]
    refine iteF ?_
    exact ⟨_, rfl, t, _, 1, _, rfl, rfl, SqT.of ht2, at1, b, some (.ref t), rfl, sG.trans s2, p4⟩
  · rintro σ' G ⟨last, o3, rfl, sG, hap⟩
    exact k G sG
/-! ### is_one_gate -/
def spOneG (C CF : Addr) : Sp := fun vs H Q _ => ∃ (s p : Addr) (t : PL) (b : Int) (ks : List Str) (f : Str → Int) (wk : List Nat) (cs : List Cut1) (r : Bool), vs = [.ref s, .ref p] ∧ FsAt CF H s b ks f wk cs ∧ PlAt C H p t ∧ t.ks.length ≤ 1000 ∧
  ((∃ n ∈ t.ks, cs = [.inl n] ∧ t.d n = b ∧ r = true) ∨ (cs = [] ∧ r = false)) ∧ ∀ H', Same H H' → Q (.bl r) H'
theorem scOneG : FnScope ["self", "plan"] ["self", "plan"] (defScope sOneG) := ⟨rfl, rfl, rfl, by decide +kernel, rfl, by decide +kernel, by decide +kernel⟩
theorem ok_oneg {f : Addr} {fd : FuncData} (F : Fun K "is_one_gate" "Fastest.is_one_gate" sOneG f fd) (T : Txt K mg) (TP : TxtP K mg C) (TF : TxtF K mg CF) : FnOk P w K mg base CX0 1 f fd ["self", "plan"] (spOneG C CF) := by
  refine F.ok scOneG (fun vs H Q E h => ?_) (fun cdv A outer s H vs Q E hr h => ?_)
  · obtain ⟨s, p, t, b, ks, f, wk, cs, r, rfl, _⟩ := h
    rfl
  obtain ⟨s0, p, t, b, ks, f, wk, cs, r, rfl, hf, hp, hkl, hcs, k⟩ := h
  have hu := hu_of hr
  refine ⟨_, pss_cons (ps_if (PW.pt (pw_or (pt_cmpR op_ne (pe_callB call_len_seq (by rfl) T.len PySem.boot_len (pa_cons (pe_fld (pv 0) rfl) pa_nil)) pe_int (nomark _))
        (pw_or1 (pt_not (pt_val (pe_callB call_isi (by rfl) T.isinst (by decide +kernel) (pa_cons (pe_ix (ixL K) (pe_fld (pv 0) rfl) pe_int (fun _ _ => rfl)) (pa_cons (pe_bltn (v := .ty "str") (by rfl) T.str (by decide +kernel) rfl) pa_nil)))))))) (pss_one (ps_ret pe_bl)) pss_nil)
    (pss_one (ps_ret (pe_cmpR op_eq (pe_dget1 hu (pe_fld (pv 1) rfl) (pe_ix (ixL K) (pe_fld (pv 0) rfl) pe_int (fun _ _ => rfl)) ⟨by rfl, by rfl, by rfl, by rfl⟩) (pe_fld (pv 0) rfl) (nomark _)))), ?_⟩
  obtain ⟨dxf, mf, wf, cf, xf, hfp, hfm, hfw, hfc, hfx⟩ := hf.ex
  obtain ⟨dx, da, wa, xs, h1, h2, h3, h4⟩ := id hp
  refine ⟨_, rfl, s0, CF, dxf, _, _, rfl, hfp, TF.cl, TF.nc, ff_c, cf, xf, rfl, .inl (SqL.of hfc), ?_⟩
  have hxl := hfx.1
  rcases hcs with ⟨n, hn, rfl, hd, rfl⟩ | ⟨rfl, rfl⟩
  · obtain ⟨y, hy, e⟩ := hfx.at' (i := 0) rfl
    have e : y = .str n := e
    subst e
    have hx1 : xf = [.str n] := by
      cases xf with
      | nil => simp at hxl
      | cons z zs =>
        cases zs with
        | nil => simp at hy; rw [hy]
        | cons _ _ => simp at hxl
    subst hx1
    refine ⟨rfl, false, rfl, iteF ?_⟩
    refine ⟨_, rfl, s0, CF, dxf, _, _, rfl, hfp, TF.cl, TF.nc, ff_c, cf, _, 0, _, rfl, rfl, SqL.of hfc, at0, .str n, .ty "str", .type "str", .type "str", true, rfl, .ty "str", tyStr, kit_ty (by decide +kernel), true, rfl, iteF ?_⟩
    refine ⟨_, rfl, p, C, dx, _, _, rfl, h1, TP.cl, TP.nD, fld_d, da, rfl, .inl ⟨_, .inl h2⟩, _, rfl, s0, CF, dxf, _, _, rfl, hfp, TF.cl, TF.nc, ff_c, cf, _, 0, _, rfl, rfl, SqL.of hfc, at0, some (.int (t.d n)), ?_, _, rfl, s0, CF, dxf, _, _, rfl, hfp, TF.cl, TF.nb, ff_b, rfl, ?_⟩
    · rw [← kN_get (wf := t.d) hn]
      exact .inl ⟨_, Sum.inr n, .inl h2, rfl, rfl⟩
    · show Q (.bl (decide (V.int (t.d n) = V.int b))) H
      rw [dec_int, decide_eq_true hd]
      exact k H (Same.refl H)
  · have hx0 : xf = [] := List.eq_nil_of_length_eq_zero hxl
    subst hx0
    exact ⟨rfl, true, rfl, iteT (k H (Same.refl H))⟩
end
end PN
namespace PN
open PySem PySem.Spec PyProof.Rows L2 LayT
/-! ### what evidence is -/
def SegOk (t : PL) (wk : List Nat) (b : Int) : Cut1 → Prop
  | .inl _ => False
  | .inr (a, e) => a < e ∧ e ≤ wk.length ∧ ∃ u z h D, Wk t.ws t.d md u ((wk.drop a).take (e - a)) z h D ∧ b ≤ D
structure EvW (t : PL) (b : Int) (wk : List Nat) (cs : List Cut1) (qs : List W3) (u : Str) : Prop where
  walk : WalkIs t.ws wk qs u
  apart : Apart 0 cs wk.length
  seg : ∀ c ∈ cs, SegOk t wk b c
  wl : wk.length ≤ 1000000
  cl : cs.length ≤ 30
theorem cuts_seg {t : PL} {b : Int} : ∀ (rs : List (LM Str)) (n : Nat) (pre : List Nat), pre.length = n → (∀ l ∈ rs, l.k = true → Wk t.ws t.d md l.b l.p l.z l.h l.D ∧ b ≤ l.D) → ∀ c ∈ cutsOf n rs, SegOk t (pre ++ walkOf rs) b c
  | [], _, _, _, _, c, hc => by cases hc
  | l :: r, n, pre, hp, hk, c, hc => by
    unfold cutsOf at hc
    have ew : walkOf (l :: r) = l.p ++ walkOf r := by unfold walkOf; rw [List.flatMap_cons]
    rcases List.mem_append.mp hc with hc | hc
    · by_cases h : l.k = true
      · rw [if_pos h] at hc
        obtain rfl := List.mem_singleton.mp hc
        obtain ⟨w, hb⟩ := hk l List.mem_cons_self h
        have hpos := List.length_pos_iff.mpr w.ne
        refine ⟨by omega, by rw [ew, List.length_append, List.length_append]; omega, l.b, l.z, l.h, l.D, ?_, hb⟩
        have e1 : (pre ++ walkOf (l :: r)).drop n = l.p ++ walkOf r := by rw [← hp, List.drop_left, ew]
        have e2 : n + l.p.length - n = l.p.length := by omega
        rw [e1, e2, List.take_left]
        exact w
      · rw [if_neg h] at hc; cases hc
    · have := cuts_seg r (n + l.p.length) (pre ++ l.p) (by rw [List.length_append, hp]) (fun x hx => hk x (List.mem_cons_of_mem _ hx)) c hc
      rw [ew, ← List.append_assoc]
      exact this
theorem cuts_apart : ∀ (rs : List (LM Str)) (n last N : Nat), last ≤ n → n + (walkOf rs).length ≤ N → (∀ l ∈ rs, l.p ≠ []) → Apart last (cutsOf n rs) N
  | [], n, last, N, h, h2, _ => by show last ≤ N; omega
  | l :: r, n, last, N, h, h2, hp => by
    have ew : (walkOf (l :: r)).length = l.p.length + (walkOf r).length := by unfold walkOf; rw [List.flatMap_cons, List.length_append]
    have hpos := List.length_pos_iff.mpr (hp l List.mem_cons_self)
    unfold cutsOf
    by_cases c : l.k = true
    · rw [if_pos c]
      exact ⟨h, by omega, by omega, cuts_apart r (n + l.p.length) (n + l.p.length) N (Nat.le_refl _) (by omega) fun x hx => hp x (List.mem_cons_of_mem _ hx)⟩
    · rw [if_neg c]
      exact cuts_apart r (n + l.p.length) last N (by omega) (by omega) fun x hx => hp x (List.mem_cons_of_mem _ hx)
theorem cuts_cnt : ∀ (rs : List (LM Str)) (n : Nat), (cutsOf n rs).length = cntK rs
  | [], _ => rfl
  | l :: r, n => by
    unfold cutsOf cntK
    rw [List.length_append, cuts_cnt r]
    split <;> rfl
theorem walk_len : ∀ (rs : List (LM Str)), (∀ l ∈ rs, l.p.length ≤ 16384) → (walkOf rs).length ≤ rs.length * 16384
  | [], _ => by decide
  | l :: r, h => by
    have ih := walk_len r fun x hx => h x (List.mem_cons_of_mem _ hx)
    have := h l List.mem_cons_self
    have ew : (walkOf (l :: r)).length = l.p.length + (walkOf r).length := by unfold walkOf; rw [List.flatMap_cons, List.length_append]
    rw [ew, List.length_cons]
    omega
theorem cnt_le : ∀ rs : List (LM Str), cntK rs ≤ rs.length
  | [] => by decide
  | l :: r => by
    have := cnt_le r
    unfold cntK
    rw [List.length_cons]
    split <;> omega
theorem ring_evw {t : PL} {b : Int} {rs : List (LM Str)} (R : RingEv t.ws t.d out b rs) (h1 : ∀ r ∈ rs, r.p.length ≤ 16384) (h2 : rs.length ≤ 30) : ∃ qs u, EvW t b (walkOf rs) (cutsOf 0 rs) qs u ∧ (qs.map fun q => q.2.2).sum < ((cutsOf 0 rs).length : Int) := by
  obtain ⟨l, e, hl, he, ez⟩ := R.ends
  obtain ⟨qs, a1, a2, a3, a4⟩ := ring_walk (out := out) (b := b) R.wire R.walk R.chain l e hl he
  have hne : ∀ l ∈ rs, l.p ≠ [] := fun l hl => by
    cases h : l.k with
    | false => obtain ⟨i, q, e1, _⟩ := R.wire l hl h; rw [e1]; simp
    | true => exact (R.walk l hl h).1.ne
  have hn := R.neg
  rw [most_sum] at hn
  rw [ez] at a3
  refine ⟨qs, l.b, ⟨⟨a1, a2, a3⟩, cuts_apart rs 0 0 _ (Nat.le_refl _) (by omega) hne, fun c hc => ?_, ?_, ?_⟩, ?_⟩
  · have := cuts_seg rs 0 [] rfl R.walk c hc
    rw [List.nil_append] at this
    exact this
  · have := walk_len rs h1; omega
  · rw [cuts_cnt]; have := cnt_le rs; omega
  · rw [cuts_cnt, a4]; omega
theorem seg_at {wk : List Nat} {a e j : Nat} (hj : j < e - a) : ((wk.drop a).take (e - a))[j]? = wk[a + j]? := by
  rw [List.getElem?_take, if_pos hj, List.getElem?_drop]
theorem iV_cut {wk : List Nat} {a e : Nat} : ((iV wk).drop a).take (e - a) = iV ((wk.drop a).take (e - a)) := by
  unfold iV
  rw [List.map_take, List.map_drop]
theorem cut_one_on {x : V} {zs : List V} : cutV (x :: zs) (some 1) none = zs := by
  unfold cutV
  rw [show (1 : Int) = ((1 : Nat) : Int) from rfl, HT.sIx_nat, HT.sIx_none, Nat.min_eq_left (by simp only [List.length_cons]; omega)]
  exact List.take_of_length_le (by simp)
section
variable {P : Program} {w : World} {K : PySem.W.Frag} {mg : Str → Option Value} {base : Heap} {C CP CL CF CB CN : Addr}
/-! ### is_long -/
def spIsLong (C CF : Addr) : Sp := fun vs H Q _ => ∃ (s p : Addr) (t : PL) (b : Int) (ks : List Str) (f : Str → Int) (wk : List Nat) (cs : List Cut1) (a e : Nat), vs = [.ref s, .ref p, .int ((a : Nat) : Int), .int ((e : Nat) : Int)] ∧ FsAt CF H s b ks f wk cs ∧ PlAt C H p t ∧ OkPl t ∧
  SegOk t wk b (.inr (a, e)) ∧ wk.length ≤ 1000000 ∧ ∀ H', Same H H' → Q (.bl true) H'
abbrev nIsLong : List Str := ["self", "plan", "first", "behind", "gates", "last", "place", "gate"]
theorem scIsLong : FnScope nIsLong ["self", "plan", "first", "behind"] (defScope sIsLong) := ⟨rfl, rfl, rfl, by decide +kernel, rfl, by decide +kernel, by decide +kernel⟩
theorem ok_islong {f : Addr} {fd : FuncData} (F : Fun K "is_long" "Fastest.is_long" sIsLong f fd) (T : Txt K mg) (TP : TxtP K mg C) (TF : TxtF K mg CF) : FnOk P w K mg base CX0 1 f fd ["self", "plan", "first", "behind"] (spIsLong C CF) := by
  refine F.ok scIsLong (fun vs H Q E h => ?_) (fun cdv A outer s H vs Q E hr h => ?_)
  · obtain ⟨s, p, t, b, ks, f, wk, cs, a, e, rfl, _⟩ := h
    rfl
  obtain ⟨s0, p, t, b, ks, f, wk, cs, a, e, rfl, hf, hp, okp, hseg, hwl, k⟩ := h
  have nd := scIsLong.nd
  have hu := hu_of hr
  refine ⟨_, Evl.pss_cut (ps_setLc (i := 4) (own := [("place", 6)]) (g := gName 6) (by rfl) nd rfl rfl (sw_true rfl rfl rfl (by decide +kernel)) (pi_list (pe_slice sl_list (pe_fld (pv 0) rfl) (po_some (pv 2)) (po_some (pv 3)))) (blkOk_by (N := nIsLong) (sc := defScope sIsLong) (by decide +kernel))
        (fun _ _ _ _ _ => pg_name (i := 6) nd rfl (.inl rfl)) (fun _ _ _ _ _ => pts_nil) (fun _ _ _ _ _ => pe_ix (ixT K) (pe_ix (ixT K) (pfd K (pv 1)) (pv 6) (fun _ _ => rfl)) pe_int (fun _ _ => rfl)))
    (Evl.pss_cut (ps_set (i := 5) nd rfl (.inl rfl) (pe_ix (ixT K) (pe_ix (ixT K) (pe_fld (pv 1) rfl) (pe_ix (ixL K) (pe_fld (pv 0) rfl) (pe_op op_sub (pv 3) pe_int) (fun _ _ => rfl)) (fun _ _ => rfl)) pe_int (fun _ _ => rfl)))
    (pss_cons (ps_if (pt_cmpR (inSK K) (pgl T.O) (pe_slice sl_list (pv 4) (po_some pe_int) po_none) (by rfl)) (pss_one (ps_ret pe_bl)) pss_nil)
    (pss_one (ps_ret (pe_cmpR op_ge (pe_callB (cr_sum rfl) (by rfl) T.sum (by decide +kernel) (pa_cons
        (pe_lc (own := [("gate", 7)]) (g := gName 7) (by rfl) nd (pi_list (pe_op op_cat (pv 4) (plst (pa_cons (pv 5) pa_nil)))) (blkOk_by (N := nIsLong) (sc := defScope sIsLong) (by decide +kernel))
          (fun _ _ _ _ _ => pg_name (i := 7) nd rfl (.inl rfl)) (fun _ _ _ _ _ => pts_nil) (fun _ _ _ _ _ => pe_dget hu (pfd K (pv 1)) (pv 7) (fun _ _ => rfl))) pa_nil)) (pe_fld (pv 0) rfl) (nomark _)))))), ?_⟩
  obtain ⟨dxf, mf, wf, cf, xf, hfp, hfm, hfw, hfc, hfx⟩ := hf.ex
  obtain ⟨dx, da, wa, xs, h1, h2, h3, h4⟩ := id hp
  obtain ⟨hae, hew, u, z, hh, D, wW, hbD⟩ := hseg
  obtain ⟨q, qs, a1, a2, a3, a4, a5⟩ := wW.seg
  have ivl : (iV wk).length = wk.length := iV_len
  have sgl : ((wk.drop a).take (e - a)).length = e - a := by rw [List.length_take, List.length_drop]; omega
  have ql : (q :: qs).length = e - a := by rw [← a1.1, sgl]
  have hrow : ∀ {j i : Nat}, ((wk.drop a).take (e - a))[j]? = some i → ∃ q' aw, (q :: qs)[j]? = some q' ∧ xs[i]? = some (.ref aw) ∧ H aw = some (.tup [.str q'.1, .str q'.2.1, .int q'.2.2]) := fun {j i} hj => by
    obtain ⟨q', hq, hw⟩ := a1.at hj
    obtain ⟨x, hx, aw, rfl, ha⟩ := h4.at' hw
    exact ⟨q', aw, hq, hx, ha⟩
  -- gates
  refine ⟨fun σ' G => ∃ gl : Addr, σ' = [some (.ref s0), some (.ref p), some (.int ((a : Nat) : Int)), some (.int ((e : Nat) : Int)), some (.ref gl), none, none, none] ∧ Same H G ∧ G gl = some (.lst (((q :: qs).map fun x => x.1).map V.str)), ?_, ?_⟩
  · refine ⟨_, rfl, s0, CF, dxf, _, _, rfl, hfp, TF.cl, TF.nw, ff_w, _, rfl, _, rfl, _, rfl, _, rfl, wf, _, rfl, SqL.of hfw, fun l nl => ?_⟩
    rw [cut_mid (by omega) (by rw [ivl]; exact hew), iV_cut]
    have s1 := same_upd (o := HO.lst (iV ((wk.drop a).take (e - a)))) nl
    have hl : upd H l (.lst (iV ((wk.drop a).take (e - a)))) l = some (.lst (iV ((wk.drop a).take (e - a)))) := upd_same
    generalize upd H l (.lst (iV ((wk.drop a).take (e - a)))) = H1 at s1 hl ⊢
    refine ⟨l, rfl, ⟨_, SqL.of hl⟩, fun c nc => lc_it (walk_list (K := K) (a := l) (xs := iV ((wk.drop a).take (e - a)))) (fun j G => Same H1 G ∧ G c = some (.lst ((((q :: qs).take j).map fun x => x.1).map V.str)))
      ⟨same_upd nc, upd_same⟩ (fun j G _ hh => SqL.of (hh.1 _ _ hl)) ?_ ?_⟩
    · rintro j y G G' hj ⟨sG, gc⟩ ⟨eH, ey⟩
      obtain rfl : G = G' := eH.symm
      obtain ⟨i, hi, rfl⟩ := iV_at ey
      obtain ⟨q', aw, hq, hx, ha⟩ := hrow hi
      have s1G := s1.trans sG
      refine ⟨rfl, _, rfl, p, C, dx, _, _, rfl, s1G _ _ h1, TP.cl, TP.nW, fld_w, _, rfl, wa, xs, _, _, rfl, rfl, SqT.of (s1G _ _ h3), atI_nat hx, ?_⟩
      refine ⟨aw, _, 0, _, rfl, rfl, SqT.of (s1G _ _ ha), at0, ?_⟩
      refine ⟨_, gc, ?_, sG.mut nc, ?_⟩
      · rw [List.length_map, List.length_map, List.length_take]; exact szlM (by omega)
      · rw [upd_same, take_succ_at hq, List.map_append, List.map_append]; rfl
    · rintro G ⟨sG, gc⟩
      have e1 : (iV ((wk.drop a).take (e - a))).length = (q :: qs).length := by rw [iV_len, sgl, ql]
      rw [e1, List.take_length] at gc
      exact ⟨c, rfl, s1.trans sG, gc⟩
  rintro σ' G1 ⟨gl, rfl, s1, ggl⟩
  -- last
  refine ⟨fun σ' G => σ' = [some (.ref s0), some (.ref p), some (.int ((a : Nat) : Int)), some (.int ((e : Nat) : Int)), some (.ref gl), some (.str z), none, none] ∧ G = G1, ?_, ?_⟩
  · have hlast : ∃ i, ((wk.drop a).take (e - a))[e - a - 1]? = some i := ⟨_, List.getElem?_eq_getElem (by rw [sgl]; omega)⟩
    obtain ⟨i, hi⟩ := hlast
    obtain ⟨q', aw, hq, hx, ha⟩ := hrow hi
    have hz : q'.2.1 = z := a2.last q' (by rw [List.getLast?_eq_getElem?, ql]; exact hq)
    rw [seg_at (by omega), show a + (e - a - 1) = e - 1 by omega] at hi
    refine ⟨_, rfl, p, C, dx, _, _, rfl, s1 _ _ h1, TP.cl, TP.nW, fld_w, _, rfl, s0, CF, dxf, _, _, rfl, s1 _ _ hfp, TF.cl, TF.nw, ff_w, ?_⟩
    refine ⟨_, rfl, _, _, rfl, rfl, wf, _, _, _, rfl, rfl, SqL.of (s1 _ _ hfw), atI_mid (j := e - 1) (v := .int ((i : Nat) : Int)) (by omega) (by unfold iV; rw [List.getElem?_map, hi]; rfl), ?_⟩
    refine ⟨wa, xs, _, _, rfl, rfl, SqT.of (s1 _ _ h3), atI_nat hx, ?_⟩
    refine ⟨aw, _, 1, _, rfl, rfl, SqT.of (s1 _ _ ha), at1, ?_⟩
    rw [hz]
    exact ⟨rfl, rfl⟩
  rintro σ' G2 ⟨rfl, rfl⟩
  -- none but the first is the outside
  refine ⟨_, rfl, _, rfl, gl, _, rfl, SqL.of ggl, fun l nl => ?_⟩
  have ec : cutV (((q :: qs).map fun x => x.1).map V.str) (some 1) none = (qs.map fun x => x.1).map V.str := cut_one_on
  rw [ec]
  have s2 := same_upd (o := HO.lst ((qs.map fun x => x.1).map V.str)) nl
  have hl : upd G2 l (.lst ((qs.map fun x => x.1).map V.str)) l = some (.lst ((qs.map fun x => x.1).map V.str)) := upd_same
  generalize upd G2 l (.lst ((qs.map fun x => x.1).map V.str)) = G3 at s2 hl ⊢
  refine ⟨l, _, rfl, .inl (SqL.of hl), rfl, flat_strs, _, rfl, ?_⟩
  show if inV (.str out) ((qs.map fun x => x.1).map V.str) = true then _ else _
  rw [inV_str, decide_eq_false (fun h => by
    obtain ⟨x, hx, ex⟩ := List.mem_map.mp h
    exact a3 x hx ex)]
  refine iteF ?_
  have ggl3 := s2 _ _ ggl
  have s13 := s1.trans s2
  refine ⟨_, rfl, _, rfl, rd_l1 fun l1 G4 nl1 s4 hl1 => ⟨gl, l1, _, _, rfl, rfl, s4 _ _ ggl3, hl1, ?_, fun l2 nl2 => ?_⟩⟩
  · rw [List.length_map, List.length_map, ql]
    simp only [List.length_cons, List.length_nil]
    exact Nat.le_of_lt (szlM (by omega))
  have s5 := same_upd (o := HO.lst (((q :: qs).map fun x => x.1).map V.str ++ [V.str z])) nl2
  have hl2 : upd G4 l2 (.lst (((q :: qs).map fun x => x.1).map V.str ++ [V.str z])) l2 = some (.lst (((q :: qs).map fun x => x.1).map V.str ++ [V.str z])) := upd_same
  generalize upd G4 l2 (.lst (((q :: qs).map fun x => x.1).map V.str ++ [V.str z])) = G5 at s5 hl2 ⊢
  have s15 := (s13.trans s4).trans s5
  have eL : ((q :: qs).map fun x => x.1).map V.str ++ [V.str z] = (((q :: qs).map fun x => x.1) ++ [z]).map V.str := by rw [List.map_append]; rfl
  rw [eL] at hl2
  have gk : ∀ n ∈ ((q :: qs).map fun x => x.1) ++ [z], n ∈ t.ks := fun n hn => by
    rcases List.mem_append.mp hn with hn | hn
    · obtain ⟨x, hx, rfl⟩ := List.mem_map.mp hn
      obtain ⟨j, hj, e9⟩ := List.mem_iff_getElem.mp hx
      have hq : (q :: qs)[j]? = some x := by rw [List.getElem?_eq_getElem hj, e9]
      have hjp : j < ((wk.drop a).take (e - a)).length := by rw [a1.1]; exact hj
      exact (okp.ends x (List.mem_of_getElem? (a1.2 j _ x (List.getElem?_eq_getElem hjp) hq))).1
    · rw [List.mem_singleton.mp hn]
      obtain ⟨_, q2, hq2, e2⟩ := wW.ends
      rw [← e2]; exact (okp.ends q2 hq2).2
  refine ⟨l2, rfl, ⟨_, SqL.of hl2⟩, fun c nc => lc_it (walk_list (K := K) (a := l2) (xs := (((q :: qs).map fun x => x.1) ++ [z]).map V.str)) (fun j G => Same G5 G ∧ G c = some (.lst ((((((q :: qs).map fun x => x.1) ++ [z]).take j).map t.d).map V.int)))
    ⟨same_upd nc, upd_same⟩ (fun j G _ hh => SqL.of (hh.1 _ _ hl2)) ?_ ?_⟩
  · rintro j y G G' hj ⟨sG, gc⟩ ⟨eH, ey⟩
    obtain rfl : G = G' := eH.symm
    obtain ⟨n, hn, rfl⟩ := map_at ey
    have hnk := gk n (List.mem_of_getElem? hn)
    have s1G := s15.trans sG
    refine ⟨rfl, _, rfl, p, C, dx, _, _, rfl, s1G _ _ h1, TP.cl, TP.nD, fld_d, _, rfl, da, _, rfl, by rw [← kN_get (wf := t.d) hnk]; exact .inl ⟨_, Sum.inr n, .inl (s1G _ _ h2), rfl, rfl⟩, ?_⟩
    refine ⟨_, gc, ?_, sG.mut nc, ?_⟩
    · rw [List.length_map, List.length_map, List.length_take, List.length_append, List.length_map, ql]; exact szlM (by simp only [List.length_cons, List.length_nil]; omega)
    · rw [upd_same, take_succ_at hn, List.map_append, List.map_append]; rfl
  rintro G ⟨sG, gc⟩
  rw [List.length_map, List.take_length] at gc
  refine ⟨c, _, rfl, SqL.of gc, ?_⟩
  have s1G := s15.trans sG
  refine ⟨_, rfl, s0, CF, dxf, _, _, rfl, s1G _ _ hfp, TF.cl, TF.nb, ff_b, _, _, rfl, rfl, ?_⟩
  have eS : ((((q :: qs).map fun x => x.1) ++ [z]).map t.d).sum = D := by
    have e0 : ((q :: qs).map fun x => x.1).map t.d = (q :: qs).map fun x => t.d x.1 := by rw [List.map_map]; rfl
    have e1 : ([z].map t.d).sum = t.d z := by simp
    rw [List.map_append, List.sum_append, e0, e1]
    exact a4
  rw [eS]
  show Q (.bl (decide (b ≤ D))) G
  rw [decide_eq_true (show b ≤ D from hbD)]
  exact k G s1G
end
end PN
namespace PN
open PySem PySem.Spec PyProof.Rows L2 LayT
/-- what shows tells -/
def ShR (t : PL) (b : Int) (f : Str → Int) (wk : List Nat) (cs : List Cut1) (r : Bool) : Prop :=
  ((∀ m, BeatIs t.ks t.d t.ws out (mvK t.ks f) m → m ≠ some b) ∧ r = false) ∨
  ((∀ m, BeatIs t.ks t.d t.ws out (mvK t.ks f) m → m = some b) ∧
    ((wk = [] ∧ ((b = 0 ∧ r = true) ∨ (b ≠ 0 ∧ ((∃ n ∈ t.ks, cs = [.inl n] ∧ t.d n = b ∧ r = true) ∨ (cs = [] ∧ r = false))))) ∨
      ∃ qs u, EvW t b wk cs qs u ∧ r = decide ((qs.map fun q => q.2.2).sum < (cs.length : Int))))
section
variable {P : Program} {w : World} {K : PySem.W.Frag} {mg : Str → Option Value} {base : Heap} {C CP CL CF CB CN : Addr}
def spShows (C CF : Addr) : Sp := fun vs H Q _ => ∃ (s p : Addr) (t : PL) (b : Int) (f : Str → Int) (wk : List Nat) (cs : List Cut1) (r : Bool), vs = [.ref s, .ref p] ∧ FsAt CF H s b t.ks f wk cs ∧ PlAt C H p t ∧ OkPl t ∧ ShR t b f wk cs r ∧ ∀ H', Same H H' → Q (.bl r) H'
abbrev nShows : List Str := ["self", "plan", "many", "gate", "place", "first", "behind"]
theorem scShows : FnScope nShows ["self", "plan"] (defScope sShows) := ⟨rfl, rfl, rfl, by decide +kernel, rfl, by decide +kernel, by decide +kernel⟩
theorem ok_shows {fE fT fO fW fA fI f : Addr} {fdE fdT fdO fdW fdA fdI fd : FuncData} (F : Fun K "shows" "Fastest.shows" sShows f fd) (T : Txt K mg) (TP : TxtP K mg C) (TF : TxtF K mg CF) (DE : Dfn P w K mg base "need_plan" 1 ["plan"] (spNeed0 C) fE fdE)
    (DT : Dfm P w K mg base C "beat" 2 ["self", "moves"] (spBeat C) fT fdT) (DO : Dfm P w K mg base CF "is_one_gate" 1 ["self", "plan"] (spOneG C CF) fO fdO) (DW : Dfn P w K mg base "is_walk" 2 ["plan", "walk"] (spIsWalk C) fW fdW)
    (DA : Dfn P w K mg base "are_apart" 2 ["cuts", "many"] spApart fA fdA) (DI : Dfm P w K mg base CF "is_long" 1 ["self", "plan", "first", "behind"] (spIsLong C CF) fI fdI) : FnOk P w K mg base CX0 3 f fd ["self", "plan"] (spShows C CF) := by
  refine F.ok scShows (fun vs H Q E h => ?_) (fun cdv A outer s H vs Q E hr h => ?_)
  · obtain ⟨s, p, t, b, f, wk, cs, r, rfl, _⟩ := h
    rfl
  obtain ⟨s0, p, t, b, f, wk, cs, r, rfl, hf, hp, okp, hR, k⟩ := h
  have nd := scShows.nd
  have hu := hu_of hr
  have hr1 : Room 1 _ := hr.mono (by decide)
  have hr2 : Room 2 _ := hr.mono (by decide)
  refine ⟨_, pss_cons (ps_expr (pcl DE hr1 (pa_cons (pv 1) pa_nil)))
    (Evl.pss_cut (ps_if (PW.pt (pw_or (pt_not (pt_val (pe_callB (cr_all rfl) (by rfl) T.all (by decide +kernel) (pa_cons
        (pe_lock (pe_lc (own := [("gate", 3)]) (g := gName 3) (by rfl) nd (pi_keys (pe_fld (pv 0) rfl)) (blkOk_by (N := nShows) (sc := defScope sShows) (by decide +kernel))
          (fun _ _ _ _ _ => pg_name (i := 3) nd rfl (.inl rfl)) (fun _ _ _ _ _ => pts_nil) (fun _ _ _ _ _ => pe_cmp (pc_din hu (pv 3) (pfd K (pv 1))) rfl))) pa_nil))))
        (pw_or1 (pt_cmpR op_ne (pe_meth (pv 1) TP.cl DT.meth DT.ok hr2 DT.b .nil pass0 (pa_cons (pe_fld (pv 0) rfl) pa_nil)) (pe_fld (pv 0) rfl) (nomark _))))) (pss_one (ps_ret pe_bl)) pss_nil)
    (pss_cons (ps_if (pt_not (pt_truth (pe_fld (pv 0) rfl) (by intro _; rfl))) (pss_one (ps_ret (pe_or (pe_cmpR op_eq (pe_fld (pv 0) rfl) pe_int (nomark _)) (pe_one (pe_meth (pv 0) TF.cl DO.meth DO.ok hr1 DO.b .nil pass0 (pa_cons (pv 1) pa_nil)))))) pss_nil)
    (pss_cons (ps_if (PW.pt (pw_or (pt_not (pt_val (pcl DW hr2 (pa_cons (pv 1) (pa_cons (pe_fld (pv 0) rfl) pa_nil))))) (pw_or1 (pt_not (pt_val (pcl DA hr2 (pa_cons (pe_fld (pv 0) rfl) (pa_cons (pe_callB call_len_seq (by rfl) T.len PySem.boot_len (pa_cons (pe_fld (pv 0) rfl) pa_nil)) pa_nil)))))))) (pss_one (ps_ret pe_bl)) pss_nil)
    (Evl.pss_cut (ps_set (i := 2) nd rfl (.inl rfl) (pe_callB (cr_sum rfl) (by rfl) T.sum (by decide +kernel) (pa_cons
        (pe_lc (own := [("place", 4)]) (g := gName 4) (by rfl) nd (pi_list (pe_fld (pv 0) rfl)) (blkOk_by (N := nShows) (sc := defScope sShows) (by decide +kernel))
          (fun _ _ _ _ _ => pg_name (i := 4) nd rfl (.inl rfl)) (fun _ _ _ _ _ => pts_nil) (fun _ _ _ _ _ => pe_ix (ixT K) (pe_ix (ixT K) (pfd K (pv 1)) (pv 4) (fun _ _ => rfl)) pe_int (fun _ _ => rfl))) pa_nil)))
    (pss_one (ps_ret (pe_and (pe_cmpR op_gt (pe_callB call_len_seq (by rfl) T.len PySem.boot_len (pa_cons (pe_fld (pv 0) rfl) pa_nil)) (pv 2) (nomark _)) (pe_one (pe_callB (cr_all rfl) (by rfl) T.all (by decide +kernel) (pa_cons
        (pe_lc (own := [("first", 5), ("behind", 6)]) (by rfl) nd (pi_list (pe_fld (pv 0) rfl)) (blkOk_by (N := nShows) (sc := defScope sShows) (by decide +kernel))
          (fun _ _ _ _ _ => pgT2 K 5 6 nd) (fun _ _ _ _ _ => pts_nil) (fun _ _ _ _ _ => pe_meth (pv 0) TF.cl DI.meth DI.ok hr1 DI.b .nil pass0 (pa_cons (pv 1) (pa_cons (pv 5) (pa_cons (pv 6) pa_nil))))) pa_nil)))))))))), ?_⟩
  obtain ⟨dxf, mf, wf, cf, xf, hfp, hfm, hfw, hfc, hfx⟩ := hf.ex
  obtain ⟨dx, da, wa, xs, h1, h2, h3, h4⟩ := id hp
  have hkl := okp.kl
  refine ⟨_, rfl, p, dx, _, rfl, h1, ?_⟩
  refine ⟨fun σ' G => σ' = [some (.ref s0), some (.ref p), none, none, none, none, none] ∧ Same H G ∧ (∀ m, BeatIs t.ks t.d t.ws out (mvK t.ks f) m → m = some b) ∧ ((wk = [] ∧ ((b = 0 ∧ r = true) ∨ (b ≠ 0 ∧ ((∃ n ∈ t.ks, cs = [.inl n] ∧ t.d n = b ∧ r = true) ∨ (cs = [] ∧ r = false))))) ∨
      ∃ qs u, EvW t b wk cs qs u ∧ r = decide ((qs.map fun q => q.2.2).sum < (cs.length : Int))), ?_, ?_⟩
  · refine ⟨mf, _, hfm, True.intro, fun od => ?_⟩
    have hfr : upd H mf (.frz od (.dK (kN t.ks f))) mf = some (.frz od (.dK (kN t.ks f))) := upd_same
    have hun : ∀ {H2 : Hp}, Same (upd H mf (.frz od (.dK (kN t.ks f)))) H2 → Same H (upd H2 mf (.dK (kN t.ks f))) := fun s2 => unlock hfm s2
    have hsf : upd H mf (.frz od (.dK (kN t.ks f))) s0 = some (.ins CF dxf (ff b mf wf cf)) := by
      rw [upd_ne (fun z => by rw [z, hfm] at hfp; cases hfp)]; exact hfp
    have hpf : upd H mf (.frz od (.dK (kN t.ks f))) p = some (.ins C dx [(("delays" : Str), V.ref da), (("wires" : Str), V.ref wa)]) := by
      rw [upd_ne (fun z => by rw [z, hfm] at h1; cases h1)]; exact h1
    have hda : (upd H mf (.frz od (.dK (kN t.ks f))) da = some (.dK (kN t.ks t.d))) ∨ ∃ od', upd H mf (.frz od (.dK (kN t.ks f))) da = some (.frz od' (.dK (kN t.ks t.d))) := by
      by_cases e : da = mf
      · subst e
        rw [hfm] at h2
        have e2 : kN t.ks f = kN t.ks t.d := HO.dK.inj (Option.some.inj h2)
        exact .inr ⟨od, by rw [upd_same, e2]⟩
      · exact .inl (by rw [upd_ne e]; exact h2)
    generalize upd H mf (.frz od (.dK (kN t.ks f))) = Hf at hfr hun hsf hpf hda ⊢
    refine ⟨_, rfl, s0, CF, dxf, _, _, rfl, hsf, TF.cl, TF.nm, ff_m, mf, od, rfl, .inl ⟨_, hfr, fun c nc => lc_it (walk_keys (d := mf) (o := od) (kvs := kN t.ks f)) (fun j G => Same Hf G ∧ G c = some (.lst (((t.ks.take j).map fun _ => true).map V.bl)))
      ⟨same_upd nc, upd_same⟩ (fun j G _ hh => hh.1 _ _ hfr) ?_ ?_⟩⟩
    · rintro j y GX GY hj ⟨sG, gc⟩ ⟨rfl, ky, vy, hky, rfl⟩
      have hn' : ∃ n, t.ks[j]? = some n ∧ ky = Sum.inr n := by
        unfold kN at hky
        rw [List.getElem?_map] at hky
        obtain ⟨n, hn, e⟩ := Option.map_eq_some_iff.mp hky
        cases e
        exact ⟨n, hn, rfl⟩
      obtain ⟨n, hn', rfl⟩ := hn'
      have hnk := List.mem_of_getElem? hn'
      have dgn : DGet GY da (.str n) (some (.int (t.d n))) := by
        rw [← kN_get (wf := t.d) hnk]
        rcases hda with e | ⟨od', e⟩
        · exact .inl ⟨_, Sum.inr n, .inl (sG _ _ e), rfl, rfl⟩
        · exact .inl ⟨_, Sum.inr n, .inr ⟨od', sG _ _ e⟩, rfl, rfl⟩
      refine ⟨rfl, _, rfl, _, rfl, p, C, dx, _, _, rfl, sG _ _ hpf, TP.cl, TP.nD, fld_d, da, _, rfl, dgn, ?_⟩
      refine ⟨_, gc, ?_, sG.mut nc, ?_⟩
      · rw [List.length_map, List.length_map, List.length_take]; exact szl (by omega)
      · rw [upd_same, map_take_succ hn', List.map_append]; rfl
    · rintro G ⟨sG, gc⟩
      rw [kN_len, List.take_length] at gc
      have hcm : c ≠ mf := fun z => by rw [z, hfr] at nc; cases nc
      refine ⟨sG _ _ hfr, ?_⟩
      have s1 := hun sG
      have gc1 : upd G mf (.dK (kN t.ks f)) c = some (.lst ((t.ks.map fun _ => true).map V.bl)) := by rw [upd_ne hcm]; exact gc
      generalize upd G mf (.dK (kN t.ks f)) = G1 at s1 gc1 ⊢
      refine ⟨c, _, rfl, SqL.of gc1, _, rfl, ?_⟩
      rw [allTrue]
      refine iteF ?_
      refine ⟨_, rfl, p, dx, _, rfl, s1 _ _ h1, fld_no (by decide +kernel) (by decide +kernel), _, rfl, s0, CF, dxf, _, _, rfl, s1 _ _ hfp, TF.cl, TF.nm, ff_m, p, mf, t, _, rfl, hp.same s1, okp, mv_kN (s1 _ _ hfm), fun m G2 s2 hm => ?_⟩
      have s12 := s1.trans s2
      refine ⟨_, rfl, s0, CF, dxf, _, _, rfl, s12 _ _ hfp, TF.cl, TF.nb, ff_b, ?_⟩
      rcases hR with ⟨hne, rfl⟩ | ⟨heq, hR⟩
      · have hm' := hne m hm
        cases m with
        | none => exact ⟨rfl, true, rfl, iteT (k G2 s12)⟩
        | some m =>
          have hmb : ¬ V.int m = V.int b := fun z => hm' (by rw [V.int.inj z])
          exact ⟨rfl, true, by show V.bl (!decide (V.int m = V.int b)) = _; rw [decide_eq_false hmb]; rfl, iteT (k G2 s12)⟩
      · have hm' := heq m hm
        subst hm'
        refine ⟨rfl, false, by show V.bl (!decide (V.int b = V.int b)) = _; simp, iteF ⟨rfl, s12, heq, hR⟩⟩
  clear hR
  rintro σ' G1 ⟨rfl, s1, heq, hR⟩
  have hf1 := hf.same s1
  have hp1 := hp.same s1
  refine ⟨_, rfl, s0, CF, dxf, _, _, rfl, s1 _ _ hfp, TF.cl, TF.nw, ff_w, ?_⟩
  rcases hR with ⟨rfl, hR⟩ | ⟨qs, u, ev, rfl⟩
  · refine ⟨false, .inl ⟨_, SqL.of (s1 _ _ hfw), rfl⟩, iteT ?_⟩
    refine ⟨_, rfl, s0, CF, dxf, _, _, rfl, s1 _ _ hfp, TF.cl, TF.nb, ff_b, rfl, ?_⟩
    rcases hR with ⟨hb, rfl⟩ | ⟨hb, hR⟩
    · refine ⟨true, by rw [hb]; rfl, iteT ?_⟩
      exact k G1 s1
    · refine ⟨false, by rw [dec_int, decide_eq_false hb], iteF ?_⟩
      refine ⟨_, rfl, s0, dxf, _, rfl, s1 _ _ hfp, ff_no (by decide +kernel) (by decide +kernel) (by decide +kernel) (by decide +kernel), _, rfl, ?_⟩
      exact ⟨s0, p, t, b, _, f, _, cs, r, rfl, hf1, hp1, by omega, hR, fun G2 s2 => k G2 (s1.trans s2)⟩
  -- a walk
  have hwne : wk ≠ [] := fun z => by
    have := ev.walk.len
    rw [z] at this
    exact ev.walk.ne (List.eq_nil_of_length_eq_zero this.symm)
  have hivn : iV wk ≠ [] := fun z => hwne (List.map_eq_nil_iff.mp z)
  have ivl : (iV wk).length = wk.length := iV_len
  refine ⟨true, .inl ⟨_, SqL.of (s1 _ _ hfw), by cases e : iV wk with
    | nil => exact absurd e hivn
    | cons _ _ => rfl⟩, iteF ?_⟩
  have hcl := ev.cl
  have hwl := ev.wl
  have hxl := hfx.1
  refine ⟨_, rfl, _, rfl, s0, CF, dxf, _, _, rfl, s1 _ _ hfp, TF.cl, TF.nw, ff_w, p, wf, t, wk, qs, u, rfl, hp1, s1 _ _ hfw, hwl, ev.walk, fun G2 s2 => ⟨_, rfl, iteF ?_⟩⟩
  have s12 := s1.trans s2
  refine ⟨_, rfl, s0, CF, dxf, _, _, rfl, s12 _ _ hfp, TF.cl, TF.nc, ff_c, _, rfl, s0, CF, dxf, _, _, rfl, s12 _ _ hfp, TF.cl, TF.nw, ff_w, wf, _, rfl, .inl (SqL.of (s12 _ _ hfw)), ?_⟩
  rw [ivl]
  refine ⟨cf, xf, cs, wk.length, rfl, s12 _ _ hfc, hfx.mono fun _ _ z => z.tups s12.tups, by omega, ev.apart, fun G3 s3 => ⟨_, rfl, iteF ?_⟩⟩
  have s13 := s12.trans s3
  -- registers of the walk
  refine ⟨fun σ' G => σ' = [some (.ref s0), some (.ref p), some (.int (qs.map fun q => q.2.2).sum), none, none, none, none] ∧ Same H G, ?_, ?_⟩
  · have hwl3 := s13 _ _ hfw
    refine ⟨_, rfl, s0, CF, dxf, _, _, rfl, s13 _ _ hfp, TF.cl, TF.nw, ff_w, wf, rfl, ⟨_, SqL.of hwl3⟩, fun c nc => lc_it (walk_list (K := K) (a := wf) (xs := iV wk)) (fun j G => Same G3 G ∧ G c = some (.lst (((qs.take j).map fun q => q.2.2).map V.int)))
      ⟨same_upd nc, upd_same⟩ (fun j G _ hh => SqL.of (hh.1 _ _ hwl3)) ?_ ?_⟩
    · rintro j y G G' hj ⟨sG, gc⟩ ⟨eH, ey⟩
      obtain rfl : G = G' := eH.symm
      obtain ⟨i, hi, rfl⟩ := iV_at ey
      obtain ⟨q, hq, hw⟩ := ev.walk.at_.at hi
      obtain ⟨x, hx, aw, rfl, ha⟩ := h4.at' hw
      have s1G := s13.trans sG
      refine ⟨rfl, _, rfl, p, C, dx, _, _, rfl, s1G _ _ h1, TP.cl, TP.nW, fld_w, _, rfl, wa, xs, _, _, rfl, rfl, SqT.of (s1G _ _ h3), atI_nat hx, ?_⟩
      refine ⟨aw, _, 2, _, rfl, rfl, SqT.of (s1G _ _ ha), at2, ?_⟩
      have hjl : j < (iV wk).length := hj
      refine ⟨_, gc, ?_, sG.mut nc, ?_⟩
      · rw [List.length_map, List.length_map, List.length_take]; exact szlM (by omega)
      · rw [upd_same, take_succ_at hq, List.map_append, List.map_append]; rfl
    · rintro G ⟨sG, gc⟩
      rw [ivl, ev.walk.len, List.take_length] at gc
      exact ⟨c, _, rfl, SqL.of gc, rfl, s13.trans sG⟩
  rintro σ' G4 ⟨rfl, s4⟩
  refine ⟨_, rfl, s0, CF, dxf, _, _, rfl, s4 _ _ hfp, TF.cl, TF.nc, ff_c, cf, xf, rfl, .inl (SqL.of (s4 _ _ hfc)), _, rfl, _, _, rfl, rfl, _, rfl, ?_⟩
  rw [hxl]
  by_cases c : (qs.map fun q => q.2.2).sum < (cs.length : Int)
  · rw [decide_eq_true c]
    refine iteT ⟨_, rfl, s0, CF, dxf, _, _, rfl, s4 _ _ hfp, TF.cl, TF.nc, ff_c, cf, rfl, ⟨_, SqL.of (s4 _ _ hfc)⟩, fun l nl => lc_it (walk_list (K := K) (a := cf) (xs := xf)) (fun j G => Same G4 G ∧ G l = some (.lst (((cs.take j).map fun _ => true).map V.bl)))
      ⟨same_upd nl, upd_same⟩ (fun j G _ hh => SqL.of (hh.1 _ _ (s4 _ _ hfc))) ?_ ?_⟩
    · rintro j y G G' hj ⟨sG, gc⟩ ⟨eH, ey⟩
      obtain rfl : G = G' := eH.symm
      obtain ⟨ct, hct, hca⟩ := hfx.at ey
      have hsg := ev.seg ct (List.mem_of_getElem? hct)
      have s1G := s4.trans sG
      cases ct with
      | inl x => exact hsg.elim
      | inr ab =>
      obtain ⟨a, e⟩ := ab
      obtain ⟨tp, rfl, htp⟩ := hca
      refine ⟨tp, _, rfl, SqT.of (s1G _ _ htp), rfl, _, _, rfl, _, _, rfl, rfl, rfl, ?_⟩
      refine ⟨_, rfl, s0, dxf, _, rfl, s1G _ _ hfp, ff_no (by decide +kernel) (by decide +kernel) (by decide +kernel) (by decide +kernel), _, rfl, _, rfl, _, rfl, s0, p, t, b, _, f, wk, cs, a, e, rfl, hf.same s1G, hp.same s1G, okp, hsg, hwl, fun G5 s5 => ?_⟩
      have hjl := (List.getElem?_eq_some_iff.mp hct).1
      refine ⟨_, s5 _ _ gc, ?_, (sG.trans s5).mut nl, ?_⟩
      · rw [List.length_map, List.length_map, List.length_take]; exact szl (by omega)
      · rw [upd_same, map_take_succ hct, List.map_append]; rfl
    · rintro G ⟨sG, gc⟩
      rw [hxl, List.take_length] at gc
      refine ⟨l, _, rfl, SqL.of gc, ?_⟩
      rw [allTrue]
      have := k G (s4.trans sG)
      rw [decide_eq_true c] at this
      exact this
  · rw [decide_eq_false c] at k ⊢
    exact iteF (k G4 s4)
end
end PN
/-! Rings and rows of gates of one delay, with all registers on one wire -/
namespace PN
section
variable {α : Type} [DecidableEq α]
/-- a function of places, at gates -/
def lift (G : Nat → α) (N : Nat) (F : Nat → Int) (x : α) : Int := match (List.range N).find? (fun i => decide (G i = x)) with
  | some i => F i
  | none => 0
def Inj (G : Nat → α) (N : Nat) : Prop := ∀ i j, i < N → j < N → G i = G j → i = j
theorem lift_at {G : Nat → α} {N : Nat} {F : Nat → Int} (hG : Inj G N) {i : Nat} (hi : i < N) : lift G N F (G i) = F i := by
  unfold lift
  cases e : (List.range N).find? (fun j => decide (G j = G i)) with
  | none =>
    have := List.find?_eq_none.mp e i (List.mem_range.mpr hi)
    exact absurd (decide_eq_true rfl) this
  | some j =>
    have h1 := List.find?_some e
    have h2 := List.mem_range.mp (List.mem_of_find?_eq_some e)
    have : j = i := hG j i h2 hi (of_decide_eq_true h1)
    subst this
    rfl
theorem lift_no {G : Nat → α} {N : Nat} {F : Nat → Int} {x : α} (h : ∀ i, i < N → G i ≠ x) : lift G N F x = 0 := by
  unfold lift
  cases e : (List.range N).find? (fun j => decide (G j = x)) with
  | none => rfl
  | some j =>
    have h1 := List.find?_some e
    have h2 := List.mem_range.mp (List.mem_of_find?_eq_some e)
    exact absurd (of_decide_eq_true h1) (h j h2)
variable {keys : List α} {d : α → Int} {ws : List (α × α × Int)} {out : α} {mv f : α → Int} {G : Nat → α} {N : Nat} {D R b : Int}
/-- gates of one delay in a row: the beat is the longest run's -/
theorem chain_beat {z : Nat → Bool} {r : Nat → Nat} {M : Nat} (hG : Inj G N) (ho : ∀ i, i < N → G i ≠ out) (hk : ∀ n, n ∈ keys ↔ (∃ i, i < N ∧ n = G i) ∨ n = out) (hD : 0 ≤ D) (hdg : ∀ i, i < N → d (G i) = D) (hdo : d out = 0) (h1 : ∀ q ∈ ws, 0 ≤ rg mv q)
    (hz : ∀ b n, Zr ws out mv b n ↔ ∃ j, j + 1 < N ∧ b = G j ∧ n = G (j + 1) ∧ z j = true) (hr0 : r 0 = 1) (hr : ∀ j, r (j + 1) = if z j = true then r j + 1 else 1) (hM : ∀ j, j < N → r j ≤ M) (hM2 : ∃ j, j < N ∧ r j = M) : BeatIs keys d ws out mv (some (D * M)) := by
  have hS : ∀ i, i < N → lift G N (fun i => D * r i) (G i) = D * r i := fun i hi => lift_at hG hi
  have hSo : lift G N (fun i => D * r i) out = 0 := lift_no ho
  have hrk : ∀ i, i < N → (lift G N (fun i => (i : Int)) (G i)).toNat = i := fun i hi => by rw [lift_at hG hi]; exact Int.toNat_natCast i
  have hr1 : ∀ j, 1 ≤ r j := fun j => by
    cases j with
    | zero => omega
    | succ j => rw [hr]; split <;> omega
  have hmul : ∀ {a c : Nat}, a ≤ c → D * (a : Int) ≤ D * (c : Int) := fun {a c} h => Int.mul_le_mul_of_nonneg_left (by omega) hD
  refine ⟨h1, lift G N (fun i => D * r i), fun n => (lift G N (fun i => (i : Int)) n).toNat, fun n hn => ?_, fun b n hzz => ?_, fun n hn => ?_, ?_⟩
  · rcases (hk n).mp hn with ⟨i, hi, rfl⟩ | rfl
    · refine ⟨fun b hb => ?_, ?_, ?_⟩
      · obtain ⟨j, hj, rfl, e, hzj⟩ := (hz b _).mp hb
        have : i = j + 1 := hG _ _ hi hj e
        subst this
        rw [hS _ hi, hS j (by omega), hdg _ hi, hr, if_pos hzj]
        have : ((r j + 1 : Nat) : Int) = (r j : Int) + 1 := rfl
        rw [this, Int.mul_add, Int.mul_one]; exact Int.le_refl _
      · rw [hS _ hi, hdg _ hi]
        have := hmul (hr1 i)
        rw [show ((1 : Nat) : Int) = 1 from rfl, Int.mul_one] at this
        exact this
      · rw [hS _ hi, hdg _ hi]
        cases i with
        | zero => refine .inl ?_; rw [hr0]; exact Int.mul_one D
        | succ j =>
          cases e : z j with
          | true =>
            refine .inr ⟨G j, (hz _ _).mpr ⟨j, hi, rfl, rfl, e⟩, ?_⟩
            rw [hS j (by omega), hr, if_pos e]
            have : ((r j + 1 : Nat) : Int) = (r j : Int) + 1 := rfl
            rw [this, Int.mul_add, Int.mul_one]
          | false =>
            refine .inl ?_
            rw [hr, if_neg (by rw [e]; decide)]
            exact Int.mul_one D
    · refine ⟨fun b hb => ?_, ?_, ?_⟩
      · obtain ⟨_, _, _, _, _, _, e⟩ := hb
        exact absurd rfl e
      · rw [hSo, hdo]; exact Int.le_refl _
      · exact .inl (by rw [hSo, hdo])
  · obtain ⟨j, hj, rfl, rfl, hzj⟩ := (hz b n).mp hzz
    show (lift G N (fun i => (i : Int)) (G j)).toNat < (lift G N (fun i => (i : Int)) (G (j + 1))).toNat
    rw [hrk _ hj, hrk j (by omega)]; omega
  · rcases (hk n).mp hn with ⟨i, hi, rfl⟩ | rfl
    · rw [hS _ hi]; exact hmul (hM i hi)
    · rw [hSo]
      exact Int.mul_nonneg hD (by omega)
  · obtain ⟨j, hj, e⟩ := hM2
    exact ⟨G j, (hk _).mpr (.inl ⟨j, hj, rfl⟩), by rw [hS _ hj, e]⟩
/-! quotients -/
theorem step_div (N n : Nat) (hN : 0 < N) : (n % N = N - 1 ∧ (n + 1) / N = n / N + 1 ∧ (n + 1) % N = 0) ∨ (n % N ≠ N - 1 ∧ (n + 1) / N = n / N ∧ (n + 1) % N = n % N + 1) := by
  have e := Nat.div_add_mod n N
  have l := Nat.mod_lt n hN
  by_cases c : n % N = N - 1
  · have e2 : n + 1 = N * (n / N + 1) := by rw [Nat.mul_add, Nat.mul_one]; omega
    exact .inl ⟨c, by rw [e2, Nat.mul_div_cancel_left _ hN], by rw [e2, Nat.mul_mod_right]⟩
  · have e2 : n + 1 = N * (n / N) + (n % N + 1) := by omega
    have l2 : n % N + 1 < N := by omega
    refine .inr ⟨c, ?_, ?_⟩
    · rw [e2, Nat.mul_add_div hN, Nat.div_eq_of_lt l2, Nat.add_zero]
    · rw [e2, Nat.mul_add_mod, Nat.mod_eq_of_lt l2]
def up (n p : Nat) : Nat := (n + p - 1) / p
theorem up_pos {n p : Nat} (hn : 1 ≤ n) (hp : 1 ≤ p) : 1 ≤ up n p := by
  unfold up
  exact (Nat.le_div_iff_mul_le hp).mpr (by omega)
theorem up_mul {n p : Nat} (hp : 1 ≤ p) : n ≤ up n p * p := by
  unfold up
  have e := Nat.div_add_mod (n + p - 1) p
  have l := Nat.mod_lt (n + p - 1) hp
  rw [Nat.mul_comm]
  omega
theorem up_lt {n p : Nat} (hn : 1 ≤ n) (hp : 1 ≤ p) : (up n p - 1) * p < n := by
  have h := up_pos hn hp
  unfold up at *
  have e := Nat.div_add_mod (n + p - 1) p
  rw [Nat.sub_mul, Nat.mul_comm, Nat.one_mul]
  omega
theorem up_le {n p : Nat} (hn : 1 ≤ n) (hp : 1 ≤ p) : up n p ≤ n := by
  have h1 := up_lt hn hp
  have h2 : up n p - 1 ≤ (up n p - 1) * p := Nat.le_mul_of_pos_right _ hp
  omega
theorem up_div {n p : Nat} (hn : 1 ≤ n) (hp : 1 ≤ p) : (n - 1) / up n p < p := by
  have h := up_pos hn hp
  rw [Nat.div_lt_iff_lt_mul h]
  have := up_mul (n := n) hp
  rw [Nat.mul_comm]
  omega
/-! ### rings -/
def RingWs (ws : List (α × α × Int)) (G : Nat → α) (N : Nat) (R : Int) (p : Nat → Nat) : Prop := ∀ i, i < N → ws[p i]? = some (G i, G ((i + 1) % N), if i = N - 1 then R else 0)
theorem ring_wk {p : Nat → Nat} (hN : 0 < N) (hw : RingWs ws G N R p) (ho : ∀ i, i < N → G i ≠ out) (hd : ∀ i, i < N → d (G i) = D) : ∀ K n, ∃ pth, Wk ws d (fun x => x ≠ out) (G (n % N)) pth (G ((n + (K + 1)) % N)) (R * ((n + (K + 1)) / N : Nat) - R * (n / N : Nat)) (D * ((K + 2 : Nat) : Int))
  | 0, n => by
    have l := Nat.mod_lt n hN
    have l1 := Nat.mod_lt (n + 1) hN
    have w : Wk ws d (fun x => x ≠ out) (G (n % N)) [p (n % N)] (G ((n % N + 1) % N)) (if n % N = N - 1 then R else 0) (d (G (n % N)) + d (G ((n % N + 1) % N))) := .one (hw _ l)
    rw [Nat.mod_add_mod, hd _ l, hd _ l1] at w
    have e2 : (if n % N = N - 1 then R else 0) = R * ((n + 1) / N : Nat) - R * (n / N : Nat) := by
      rcases step_div N n hN with ⟨c, e, _⟩ | ⟨c, e, _⟩
      · rw [if_pos c, e, show ((n / N + 1 : Nat) : Int) = ((n / N : Nat) : Int) + 1 from rfl, Int.mul_add]; omega
      · rw [if_neg c, e]; omega
    rw [e2, show D + D = D * ((0 + 2 : Nat) : Int) by show D + D = D * 2; omega] at w
    exact ⟨_, w⟩
  | K + 1, n => by
    have l := Nat.mod_lt n hN
    have l1 := Nat.mod_lt (n + 1) hN
    obtain ⟨pth, w⟩ := ring_wk hN hw ho hd K (n + 1)
    have hm : G ((n % N + 1) % N) ≠ out := by rw [Nat.mod_add_mod]; exact ho _ l1
    have w' : Wk ws d (fun x => x ≠ out) (G ((n % N + 1) % N)) pth (G ((n + 1 + (K + 1)) % N)) (R * ((n + 1 + (K + 1)) / N : Nat) - R * ((n + 1) / N : Nat)) (D * ((K + 2 : Nat) : Int)) := by rw [Nat.mod_add_mod]; exact w
    have w2 : Wk ws d (fun x => x ≠ out) (G (n % N)) (p (n % N) :: pth) (G ((n + 1 + (K + 1)) % N)) ((if n % N = N - 1 then R else 0) + (R * ((n + 1 + (K + 1)) / N : Nat) - R * ((n + 1) / N : Nat))) (d (G (n % N)) + D * ((K + 2 : Nat) : Int)) := .cons (hw _ l) hm w'
    have e2 : (if n % N = N - 1 then R else 0) = R * ((n + 1) / N : Nat) - R * (n / N : Nat) := by
      rcases step_div N n hN with ⟨c, e, _⟩ | ⟨c, e, _⟩
      · rw [if_pos c, e, show ((n / N + 1 : Nat) : Int) = ((n / N : Nat) : Int) + 1 from rfl, Int.mul_add]; omega
      · rw [if_neg c, e]; omega
    have e3 : n + 1 + (K + 1) = n + (K + 1 + 1) := by omega
    rw [e2, e3, hd _ l, show D + D * ((K + 2 : Nat) : Int) = D * ((K + 1 + 2 : Nat) : Int) by rw [show ((K + 1 + 2 : Nat) : Int) = ((K + 2 : Nat) : Int) + 1 from rfl, Int.mul_add]; omega] at w2
    refine ⟨p (n % N) :: pth, ?_⟩
    rw [show R * ((n + (K + 1 + 1)) / N : Nat) - R * (n / N : Nat) = R * ((n + 1) / N : Nat) - R * (n / N : Nat) + (R * ((n + (K + 1 + 1)) / N : Nat) - R * ((n + 1) / N : Nat)) by omega]
    exact w2
theorem ring_low {p : Nat → Nat} (hN : 0 < N) (hw : RingWs ws G N R p) (ho : ∀ i, i < N → G i ≠ out) (hd : ∀ i, i < N → d (G i) = D) (hg : Good ws d out f b) {K : Nat} (hb : b < D * ((K + 2 : Nat) : Int)) : (N : Int) ≤ R * ((K + 1 : Nat) : Int) := by
  have step : ∀ n, f (G (n % N)) + R * (n / N : Nat) + 1 ≤ f (G ((n + (K + 1)) % N)) + R * ((n + (K + 1)) / N : Nat) := fun n => by
    obtain ⟨pth, w⟩ := ring_wk hN hw ho hd K n
    have := hg.2 _ _ _ _ _ w hb
    omega
  have all : ∀ m, f (G 0) + m ≤ f (G ((m * (K + 1)) % N)) + R * ((m * (K + 1)) / N : Nat) := fun m => by
    induction m with
    | zero => rw [Nat.zero_mul, Nat.zero_mod, Nat.zero_div]; simp
    | succ m ih =>
      have := step (m * (K + 1))
      rw [Nat.succ_mul]
      omega
  have h := all N
  rw [Nat.mul_mod_right, Nat.mul_div_cancel_left _ hN] at h
  omega
theorem ring_due {p : Nat → Nat} {r : Nat} (hN : 1 ≤ N) (hr : 1 ≤ r) (hw : RingWs ws G N (r : Int) p) (ho : ∀ i, i < N → G i ≠ out) (hd : ∀ i, i < N → d (G i) = D) (hg : Good ws d out f b) (hdl : D ≤ b) : D * (up N r : Int) ≤ b := by
  have h1 := up_pos hN hr
  have h2 := up_lt hN hr
  refine Classical.byContradiction fun hno => ?_
  by_cases c : up N r = 1
  · rw [c] at hno
    exact hno (by show D * 1 ≤ b; omega)
  · obtain ⟨K, hK⟩ : ∃ K, up N r = K + 2 := ⟨up N r - 2, by omega⟩
    have := ring_low hN hw ho hd hg (K := K) (by rw [hK] at hno; omega)
    rw [hK] at h2
    have h3 : (r : Int) * ((K + 1 : Nat) : Int) = ((r * (K + 1) : Nat) : Int) := rfl
    rw [h3] at this
    rw [show K + 2 - 1 = K + 1 by omega, Nat.mul_comm] at h2
    omega
structure RowG (keys : List α) (d : α → Int) (out : α) (G : Nat → α) (N : Nat) (D : Int) : Prop where
  inj : Inj G N
  no : ∀ i, i < N → G i ≠ out
  keys : ∀ n, n ∈ keys ↔ (∃ i, i < N ∧ n = G i) ∨ n = out
  pos : 0 ≤ D
  dg : ∀ i, i < N → d (G i) = D
  dout : d out = 0
def RingMem (ws : List (α × α × Int)) (G : Nat → α) (N : Nat) (R : Int) : Prop := ∀ q, q ∈ ws ↔ ∃ i, i < N ∧ q = (G i, G ((i + 1) % N), if i = N - 1 then R else 0)
theorem ring_now (S : RowG keys d out G N D) (hN : 1 ≤ N) (hR : 1 ≤ R) (hw : RingMem ws G N R) : BeatIs keys d ws out (fun _ => 0) (some (D * N)) := by
  refine chain_beat (z := fun _ => true) (r := fun j => j + 1) S.inj S.no S.keys S.pos S.dg S.dout (fun q hq => ?_) (fun b n => ?_) rfl (fun j => by rw [if_pos rfl]) (fun j hj => hj) ⟨N - 1, by omega, by omega⟩
  · obtain ⟨i, hi, rfl⟩ := (hw q).mp hq
    rw [rg0]
    show 0 ≤ if i = N - 1 then R else 0
    split <;> omega
  · constructor
    · rintro ⟨q, hq, e1, e2, e3, _⟩
      obtain ⟨i, hi, rfl⟩ := (hw q).mp hq
      rw [rg0] at e3
      have e3 : (if i = N - 1 then R else 0) = 0 := e3
      have c : i ≠ N - 1 := fun c => by rw [if_pos c] at e3; omega
      exact ⟨i, by omega, e1.symm, by rw [← e2]; show G ((i + 1) % N) = _; rw [Nat.mod_eq_of_lt (by omega)], rfl⟩
    · rintro ⟨j, hj, rfl, rfl, _⟩
      refine ⟨(G j, G (j + 1), 0), (hw _).mpr ⟨j, by omega, ?_⟩, rfl, rfl, by rw [rg0], S.no _ (by omega), S.no _ hj⟩
      rw [Nat.mod_eq_of_lt hj, if_neg (by omega)]
theorem ring_up {r : Nat} (S : RowG keys d out G N D) (hN : 1 ≤ N) (hr : 1 ≤ r) (hw : RingMem ws G N (r : Int)) : BeatIs keys d ws out (lift G N fun i => ((i / up N r : Nat) : Int)) (some (D * (up N r : Int))) := by
  have h1 := up_pos hN hr
  have h2 := up_le hN hr
  have h3 := up_div hN hr
  have hl : ∀ i, i < N → lift G N (fun i => ((i / up N r : Nat) : Int)) (G i) = ((i / up N r : Nat) : Int) := fun i hi => lift_at S.inj hi
  have hrg : ∀ i, i < N → rg (lift G N fun i => ((i / up N r : Nat) : Int)) (G i, G ((i + 1) % N), if i = N - 1 then (r : Int) else 0) = if i = N - 1 then (r : Int) - ((N - 1) / up N r : Nat) else (((i + 1) / up N r : Nat) : Int) - ((i / up N r : Nat) : Int) := fun i hi => by
    unfold rg
    dsimp only
    rw [hl i hi, hl _ (Nat.mod_lt _ hN)]
    by_cases c : i = N - 1
    · rw [if_pos c, if_pos c, c, show N - 1 + 1 = N by omega, Nat.mod_self, Nat.zero_div]; omega
    · rw [if_neg c, if_neg c, Nat.mod_eq_of_lt (by omega)]; omega
  refine chain_beat (z := fun j => decide ((j + 1) / up N r = j / up N r)) (r := fun j => j % up N r + 1) S.inj S.no S.keys S.pos S.dg S.dout (fun q hq => ?_) (fun b n => ?_) (by show 0 % up N r + 1 = 1; rw [Nat.zero_mod]) (fun j => ?_) (fun j hj => Nat.mod_lt _ h1) ⟨up N r - 1, by omega, by rw [Nat.mod_eq_of_lt (by omega)]; omega⟩
  · obtain ⟨i, hi, rfl⟩ := (hw q).mp hq
    rw [hrg i hi]
    have := Nat.div_le_div_right (c := up N r) (show i ≤ i + 1 by omega)
    split <;> omega
  · constructor
    · rintro ⟨q, hq, e1, e2, e3, _⟩
      obtain ⟨i, hi, rfl⟩ := (hw q).mp hq
      rw [hrg i hi] at e3
      by_cases c : i = N - 1
      · rw [if_pos c] at e3; omega
      · rw [if_neg c] at e3
        exact ⟨i, by omega, e1.symm, by rw [← e2]; show G ((i + 1) % N) = _; rw [Nat.mod_eq_of_lt (by omega)], decide_eq_true (by omega)⟩
    · rintro ⟨j, hj, rfl, rfl, hz⟩
      have hz := of_decide_eq_true hz
      have hm : (G j, G ((j + 1) % N), if j = N - 1 then (r : Int) else 0) ∈ ws := (hw _).mpr ⟨j, by omega, rfl⟩
      refine ⟨_, hm, rfl, by show G ((j + 1) % N) = _; rw [Nat.mod_eq_of_lt hj], ?_, S.no _ (by omega), S.no _ hj⟩
      rw [hrg j (by omega), if_neg (by omega), hz]; omega
  · rcases step_div (up N r) j h1 with ⟨c, e, e2⟩ | ⟨c, e, e2⟩
    · rw [if_neg (by rw [decide_eq_true_eq]; omega)]
      show (j + 1) % up N r + 1 = 1
      rw [e2]
    · rw [if_pos (decide_eq_true e)]
      show (j + 1) % up N r + 1 = j % up N r + 1 + 1
      rw [e2]
/-! ### rows -/
def LineMem (ws : List (α × α × Int)) (out : α) (G : Nat → α) (N at0 : Nat) (R : Int) : Prop := ∀ q, q ∈ ws ↔ q = (out, G 0, if at0 = 0 then R else 0) ∨ (∃ i, i + 1 < N ∧ q = (G i, G (i + 1), if i + 1 = at0 then R else 0)) ∨ q = (G (N - 1), out, if at0 = N then R else 0)
def LineWs (ws : List (α × α × Int)) (G : Nat → α) (N at0 : Nat) (R : Int) (p : Nat → Nat) : Prop := ∀ i, i + 1 < N → ws[p i]? = some (G i, G (i + 1), if i + 1 = at0 then R else 0)
variable {at0 : Nat}
theorem line_wk {p : Nat → Nat} (hw : LineWs ws G N at0 R p) (ho : ∀ i, i < N → G i ≠ out) (hd : ∀ i, i < N → d (G i) = D) : ∀ K n, n + (K + 1) < N → ∃ pth, Wk ws d (fun x => x ≠ out) (G n) pth (G (n + (K + 1))) ((if at0 ≤ n + (K + 1) then R else 0) - (if at0 ≤ n then R else 0)) (D * ((K + 2 : Nat) : Int))
  | 0, n, h => by
    have w : Wk ws d (fun x => x ≠ out) (G n) [p n] (G (n + 1)) (if n + 1 = at0 then R else 0) (d (G n) + d (G (n + 1))) := .one (hw n h)
    rw [hd n (by omega), hd (n + 1) h, show D + D = D * ((0 + 2 : Nat) : Int) by show D + D = D * 2; omega] at w
    have e : (if n + 1 = at0 then R else 0) = (if at0 ≤ n + 1 then R else 0) - (if at0 ≤ n then R else 0) := by
      split <;> split <;> split <;> omega
    rw [e] at w
    exact ⟨_, w⟩
  | K + 1, n, h => by
    obtain ⟨pth, w⟩ := line_wk hw ho hd K (n + 1) (by omega)
    have w2 : Wk ws d (fun x => x ≠ out) (G n) (p n :: pth) (G (n + 1 + (K + 1))) ((if n + 1 = at0 then R else 0) + ((if at0 ≤ n + 1 + (K + 1) then R else 0) - (if at0 ≤ n + 1 then R else 0))) (d (G n) + D * ((K + 2 : Nat) : Int)) := .cons (hw n (by omega)) (ho (n + 1) (by omega)) w
    have e3 : n + 1 + (K + 1) = n + (K + 1 + 1) := by omega
    have e : (if n + 1 = at0 then R else 0) + ((if at0 ≤ n + (K + 1 + 1) then R else 0) - (if at0 ≤ n + 1 then R else 0)) = (if at0 ≤ n + (K + 1 + 1) then R else 0) - (if at0 ≤ n then R else 0) := by
      split <;> split <;> split <;> split <;> omega
    rw [e3, e, hd n (by omega), show D + D * ((K + 2 : Nat) : Int) = D * ((K + 1 + 2 : Nat) : Int) by rw [show ((K + 1 + 2 : Nat) : Int) = ((K + 2 : Nat) : Int) + 1 from rfl, Int.mul_add]; omega] at w2
    exact ⟨_, w2⟩
theorem line_mono {p : Nat → Nat} (hw : LineWs ws G N at0 R p) (hg : Good ws d out f b) : ∀ k i, i + k < N → f (G i) + (if at0 ≤ i then R else 0) ≤ f (G (i + k)) + (if at0 ≤ i + k then R else 0)
  | 0, i, _ => Int.le_refl _
  | k + 1, i, h => by
    have ih := line_mono hw hg k (i + 1) (by omega)
    have h1 := hg.1 _ (List.mem_of_getElem? (hw i (by omega)))
    unfold rg at h1
    dsimp only at h1
    rw [show i + 1 + k = i + (k + 1) by omega] at ih
    have e : (if i + 1 = at0 then R else 0) = (if at0 ≤ i + 1 then R else 0) - (if at0 ≤ i then R else 0) := by
      split <;> split <;> split <;> omega
    omega
theorem line_due {p : Nat → Nat} {r : Nat} (hN : 1 ≤ N) (hat : at0 ≤ N) (hl : LineMem ws out G N at0 (r : Int)) (hw : LineWs ws G N at0 (r : Int) p) (ho : ∀ i, i < N → G i ≠ out) (hd : ∀ i, i < N → d (G i) = D) (hg : Good ws d out f b) (hdl : D ≤ b) : D * (up N (r + 1) : Int) ≤ b := by
  have h1 := up_pos hN (show 1 ≤ r + 1 by omega)
  have h2 := up_lt hN (show 1 ≤ r + 1 by omega)
  refine Classical.byContradiction fun hno => ?_
  by_cases c : up N (r + 1) = 1
  · rw [c] at hno
    exact hno (by show D * 1 ≤ b; omega)
  · obtain ⟨K, hK⟩ : ∃ K, up N (r + 1) = K + 2 := ⟨up N (r + 1) - 2, by omega⟩
    rw [hK] at h2 hno
    rw [show K + 2 - 1 = K + 1 by omega] at h2
    have step : ∀ n, n + (K + 1) < N → f (G n) + (if at0 ≤ n then (r : Int) else 0) + 1 ≤ f (G (n + (K + 1))) + (if at0 ≤ n + (K + 1) then (r : Int) else 0) := fun n hn => by
      obtain ⟨pth, w⟩ := line_wk hw ho hd K n hn
      have := hg.2 _ _ _ _ _ w (by omega)
      omega
    have all : ∀ m, m * (K + 1) < N → f (G 0) + (if at0 ≤ 0 then (r : Int) else 0) + m ≤ f (G (m * (K + 1))) + (if at0 ≤ m * (K + 1) then (r : Int) else 0) := fun m => by
      induction m with
      | zero => intro _; rw [Nat.zero_mul]; show _ + (0 : Int) ≤ _; omega
      | succ m ih =>
        intro h
        rw [Nat.succ_mul] at h ⊢
        have := ih (by omega)
        have := step (m * (K + 1)) h
        omega
    have hm : (N - 1) / (K + 1) * (K + 1) ≤ N - 1 := Nat.div_mul_le_self _ _
    have h3 := all ((N - 1) / (K + 1)) (by omega)
    have h4 := line_mono hw hg (N - 1 - (N - 1) / (K + 1) * (K + 1)) ((N - 1) / (K + 1) * (K + 1)) (by omega)
    rw [show (N - 1) / (K + 1) * (K + 1) + (N - 1 - (N - 1) / (K + 1) * (K + 1)) = N - 1 by omega] at h4
    have h5 := hg.1 _ ((hl _).mpr (.inl rfl))
    have h6 := hg.1 _ ((hl _).mpr (.inr (.inr rfl)))
    unfold rg at h5 h6
    dsimp only at h5 h6
    have h7 : (if at0 = 0 then (r : Int) else 0) = if at0 ≤ 0 then (r : Int) else 0 := by split <;> split <;> omega
    have h8 : (if at0 = N then (r : Int) else 0) + (if at0 ≤ N - 1 then (r : Int) else 0) = r := by split <;> split <;> omega
    have h9 : (N - 1) / (K + 1) ≤ r := by omega
    have h10 := Nat.div_add_mod (N - 1) (K + 1)
    have h11 := Nat.mod_lt (N - 1) (show 0 < K + 1 by omega)
    have h12 : (K + 1) * ((N - 1) / (K + 1)) ≤ (K + 1) * r := Nat.mul_le_mul_left _ h9
    rw [Nat.mul_add, Nat.mul_one] at h2
    omega
theorem line_now (S : RowG keys d out G N D) (hN : 1 ≤ N) (hat : at0 ≤ N) (hR : 1 ≤ R) (hw : LineMem ws out G N at0 R) : BeatIs keys d ws out (fun _ => 0) (some (D * (max at0 (N - at0) : Nat))) := by
  refine chain_beat (z := fun j => decide (j + 1 ≠ at0)) (r := fun j => if at0 ≤ j then j - at0 + 1 else j + 1) S.inj S.no S.keys S.pos S.dg S.dout (fun q hq => ?_) (fun b n => ?_) (by split <;> omega) (fun j => ?_) (fun j hj => by split <;> omega) ?_
  · rw [rg0]
    rcases (hw q).mp hq with rfl | ⟨i, hi, rfl⟩ | rfl <;> (dsimp only; split <;> omega)
  · constructor
    · rintro ⟨q, hq, e1, e2, e3, n1, n2⟩
      rw [rg0] at e3
      rcases (hw q).mp hq with rfl | ⟨i, hi, rfl⟩ | rfl
      · exact absurd e1.symm n1
      · have e3 : (if i + 1 = at0 then R else 0) = 0 := e3
        have c : i + 1 ≠ at0 := fun c => by rw [if_pos c] at e3; omega
        exact ⟨i, hi, e1.symm, e2.symm, decide_eq_true c⟩
      · exact absurd e2.symm n2
    · rintro ⟨j, hj, rfl, rfl, hz⟩
      have hz := of_decide_eq_true hz
      refine ⟨(G j, G (j + 1), 0), (hw _).mpr (.inr (.inl ⟨j, hj, by rw [if_neg hz]⟩)), rfl, rfl, by rw [rg0], S.no _ (by omega), S.no _ hj⟩
  · by_cases c : j + 1 = at0
    · have e : (if decide (j + 1 ≠ at0) = true then (if at0 ≤ j then j - at0 + 1 else j + 1) + 1 else 1) = 1 := if_neg (by rw [decide_eq_true_eq]; omega)
      rw [e]
      split <;> omega
    · have e : (if decide (j + 1 ≠ at0) = true then (if at0 ≤ j then j - at0 + 1 else j + 1) + 1 else 1) = (if at0 ≤ j then j - at0 + 1 else j + 1) + 1 := if_pos (decide_eq_true c)
      rw [e]
      split <;> split <;> omega
  · by_cases c : N - at0 ≤ at0
    · exact ⟨at0 - 1, by omega, by rw [if_neg (by omega)]; omega⟩
    · exact ⟨N - 1, by omega, by rw [if_pos (by omega)]; omega⟩
theorem line_up {r : Nat} (S : RowG keys d out G N D) (hN : 1 ≤ N) (hat : at0 ≤ N) (hw : LineMem ws out G N at0 (r : Int)) :
    BeatIs keys d ws out (lift G N fun i => ((i / up N (r + 1) : Nat) : Int) - if at0 ≤ i then (r : Int) else 0) (some (D * (up N (r + 1) : Int))) := by
  have h1 := up_pos hN (show 1 ≤ r + 1 by omega)
  have h2 := up_le hN (show 1 ≤ r + 1 by omega)
  have h3 := up_div hN (show 1 ≤ r + 1 by omega)
  have hl : ∀ i, i < N → lift G N (fun i => ((i / up N (r + 1) : Nat) : Int) - if at0 ≤ i then (r : Int) else 0) (G i) = ((i / up N (r + 1) : Nat) : Int) - if at0 ≤ i then (r : Int) else 0 := fun i hi => lift_at S.inj hi
  have ho : lift G N (fun i => ((i / up N (r + 1) : Nat) : Int) - if at0 ≤ i then (r : Int) else 0) out = 0 := lift_no S.no
  have hr1 : ∀ i, i + 1 < N → rg (lift G N fun i => ((i / up N (r + 1) : Nat) : Int) - if at0 ≤ i then (r : Int) else 0) (G i, G (i + 1), if i + 1 = at0 then (r : Int) else 0) = (((i + 1) / up N (r + 1) : Nat) : Int) - ((i / up N (r + 1) : Nat) : Int) := fun i hi => by
    unfold rg
    dsimp only
    rw [hl i (by omega), hl _ hi]
    have e : (if i + 1 = at0 then (r : Int) else 0) = (if at0 ≤ i + 1 then (r : Int) else 0) - (if at0 ≤ i then (r : Int) else 0) := by
      split <;> split <;> split <;> omega
    omega
  refine chain_beat (z := fun j => decide ((j + 1) / up N (r + 1) = j / up N (r + 1))) (r := fun j => j % up N (r + 1) + 1) S.inj S.no S.keys S.pos S.dg S.dout (fun q hq => ?_) (fun b n => ?_) (by show 0 % up N (r + 1) + 1 = 1; rw [Nat.zero_mod]) (fun j => ?_) (fun j hj => Nat.mod_lt _ h1) ⟨up N (r + 1) - 1, by omega, by rw [Nat.mod_eq_of_lt (by omega)]; omega⟩
  · rcases (hw q).mp hq with rfl | ⟨i, hi, rfl⟩ | rfl
    · unfold rg
      dsimp only
      rw [ho, hl 0 (by omega), Nat.zero_div]
      split <;> split <;> omega
    · rw [hr1 i hi]
      have := Nat.div_le_div_right (c := up N (r + 1)) (show i ≤ i + 1 by omega)
      omega
    · unfold rg
      dsimp only
      rw [ho, hl (N - 1) (by omega)]
      split <;> split <;> omega
  · constructor
    · rintro ⟨q, hq, e1, e2, e3, n1, n2⟩
      rcases (hw q).mp hq with rfl | ⟨i, hi, rfl⟩ | rfl
      · exact absurd e1.symm n1
      · rw [hr1 i hi] at e3
        exact ⟨i, hi, e1.symm, e2.symm, decide_eq_true (by omega)⟩
      · exact absurd e2.symm n2
    · rintro ⟨j, hj, rfl, rfl, hz⟩
      have hz := of_decide_eq_true hz
      refine ⟨_, (hw _).mpr (.inr (.inl ⟨j, hj, rfl⟩)), rfl, rfl, ?_, S.no _ (by omega), S.no _ hj⟩
      rw [hr1 j hj, hz]; omega
  · rcases step_div (up N (r + 1)) j h1 with ⟨c, e, e2⟩ | ⟨c, e, e2⟩
    · rw [if_neg (by rw [decide_eq_true_eq]; omega)]
      show (j + 1) % up N (r + 1) + 1 = 1
      rw [e2]
    · rw [if_pos (decide_eq_true e)]
      show (j + 1) % up N (r + 1) + 1 = j % up N (r + 1) + 1 + 1
      rw [e2]
end
end PN
namespace PN
open PySem PySem.Spec PyProof.Rows L2 LayT
/-! ### what is fastest shows itself -/
theorem sh_true {t : PL} {b : Int} {f : Str → Int} {wk : List Nat} {cs : List Cut1} (rt : Rt t.ks t.d t.ws out) (hb : BestT t b f) (ev : Ev t b wk cs) : ShR t b f wk cs true := by
  refine .inr ⟨fun m hm => hb.beat rt (hm.regs (mvK_rg rt.ends)), ?_⟩
  rcases ev with ⟨rfl, n, hn, e1, e2⟩ | ⟨rs, R, h1, h2, rfl, rfl⟩
  · by_cases c : b = 0
    · exact .inl ⟨rfl, .inl ⟨c, rfl⟩⟩
    · exact .inl ⟨rfl, .inr ⟨c, .inl ⟨n, hn, e2, e1, rfl⟩⟩⟩
  · obtain ⟨qs, u, ev, hlt⟩ := ring_evw R h1 h2
    exact .inr ⟨qs, u, ev, (decide_eq_true hlt).symm⟩
theorem rt_least {keys : List Str} {d : Str → Int} {ws : List W3} {b : Int} {f : Str → Int} (h : Best keys d ws out b f) {i : Int} (hd : ∀ n ∈ keys, d n ≤ i) {mv : Str → Int} (hg : Good ws d out mv i) : b ≤ i := h.least _ _ hg hd
/-! ### lists of rows by numbers -/
theorem rng_at {α : Type} {F : Nat → α} {N i : Nat} (h : i < N) : ((List.range N).map F)[i]? = some (F i) := by
  rw [List.getElem?_map, List.getElem?_range h]; rfl
theorem rng_succ {α : Type} {F : Nat → α} {n : Nat} : (List.range (n + 1)).map F = (List.range n).map F ++ [F n] := by
  rw [List.range_succ, List.map_append]; rfl
theorem rng_len {α : Type} {F : Nat → α} {n : Nat} : ((List.range n).map F).length = n := by rw [List.length_map, List.length_range]
/-- a made plan: its beat as it is -/
theorem PM.now {gs : List Str} {d : Str → Int} {ws : List W3} {t : PL} (m : PM gs d ws t) {mv : Str → Int} {b : Int} (h : BeatIs (gs ++ [out]) (dL d) ws out mv (some b)) {r : Option Int} (hr : BeatIs t.ks t.d t.ws out mv r) : r = some b := (m.beat0 hr).uniq m.rt0.ends h
theorem pc_now {gs : List Str} {d : Str → Int} {ws : List W3} (c : PC gs d ws) {b : Int} (h : BeatIs (gs ++ [out]) (dL d) ws out (fun _ => 0) (some b)) : NR gs d ws := by
  obtain ⟨_, _, rank, _, hr, _⟩ := h
  exact c.nr hr
end PN
namespace PN
open PySem PySem.Spec PyProof.Rows L2 LayT
theorem ats_uniq {ws : List W3} {p : List Nat} {l l' : List W3} (h : Ats ws p l) (h' : Ats ws p l') : l = l' := by
  refine List.ext_getElem? fun j => ?_
  by_cases c : j < p.length
  · have c1 : j < l.length := by rw [← h.1]; exact c
    have c2 : j < l'.length := by rw [← h'.1]; exact c
    have e := List.getElem?_eq_getElem c
    have h1 := h.2 j _ _ e (List.getElem?_eq_getElem c1)
    have h2 := h'.2 j _ _ e (List.getElem?_eq_getElem c2)
    rw [List.getElem?_eq_getElem c1, List.getElem?_eq_getElem c2]
    rw [h1] at h2
    exact h2
  · rw [List.getElem?_eq_none (by rw [← h.1]; omega), List.getElem?_eq_none (by rw [← h'.1]; omega)]
theorem ats_seg {ws : List W3} {wk : List Nat} {qs : List W3} (h : Ats ws wk qs) (a e : Nat) : Ats ws ((wk.drop a).take (e - a)) ((qs.drop a).take (e - a)) := by
  refine ⟨by rw [List.length_take, List.length_take, List.length_drop, List.length_drop, h.1], fun j i q h1 h2 => ?_⟩
  rw [List.getElem?_take] at h1 h2
  split at h1
  · rename_i c
    rw [if_pos c] at h2
    rw [List.getElem?_drop] at h1 h2
    exact h.2 _ i q h1 h2
  · cases h1
theorem lk_heads : ∀ {qs : List W3} {q : W3} {u z : Str}, Lk u (q :: qs) z → (q :: qs).map (fun x => x.2.1) = qs.map (fun x => x.1) ++ [z]
  | [], q, u, z, h => by rw [List.map_cons, List.map_nil, List.map_nil, show q.2.1 = z from h.2]; rfl
  | q2 :: qs, q, u, z, h => by
    rw [List.map_cons, lk_heads h.2, List.map_cons, show q2.1 = q.2.1 from h.2.1]; rfl
/-- along a closed walk each wire leads to the next one -/
theorem WalkIs.next {ws : List W3} {wk : List Nat} {qs : List W3} {u : Str} (h : WalkIs ws wk qs u) {j : Nat} {q : W3} (hj : qs[j]? = some q) : ∃ q2, qs[(j + 1) % qs.length]? = some q2 ∧ q.2.1 = q2.1 := by
  have hjl := (List.getElem?_eq_some_iff.mp hj).1
  by_cases c : j + 1 < qs.length
  · rw [Nat.mod_eq_of_lt c]
    refine ⟨_, List.getElem?_eq_getElem c, ?_⟩
    rcases h.lk.step (j + 1) _ (List.getElem?_eq_getElem c) with ⟨e, _⟩ | ⟨i, q', e, h1, h2⟩
    · omega
    · have : i = j := by omega
      subst this
      rw [hj] at h1
      cases h1
      exact h2
  · have e : j + 1 = qs.length := by omega
    rw [e, Nat.mod_self]
    have h0 : 0 < qs.length := by omega
    refine ⟨_, List.getElem?_eq_getElem h0, ?_⟩
    have hl : qs.getLast? = some q := by rw [List.getLast?_eq_getElem?, ← e]; exact hj
    rw [h.lk.last q hl]
    rcases h.lk.step 0 _ (List.getElem?_eq_getElem h0) with ⟨_, e⟩ | ⟨i, q', e, _⟩
    · exact e.symm
    · omega
section
variable {P : Program} {w : World} {K : PySem.W.Frag} {mg : Str → Option Value} {base : Heap} {C CP CL CF CB CN : Addr}
def spRuled (C CF : Addr) : Sp := fun vs H Q _ => ∃ (p s : Addr) (t : PL) (b : Int) (ks : List Str) (f : Str → Int) (wk : List Nat) (cs : List Cut1) (qs : List W3) (u : Str), vs = [.ref p, .ref s] ∧ FsAt CF H s b ks f wk cs ∧ PlAt C H p t ∧ OkPl t ∧ EvW t b wk cs qs u ∧
  (qs.map fun q => q.2.2).sum < (cs.length : Int) ∧ ∀ H', Same H H' → Q (.bl true) H'
abbrev nRuled : List Str := ["plan", "found", "wires", "end", "first", "last", "gates", "at", "wire", "gate"]
theorem scRuled : FnScope nRuled ["plan", "found"] (defScope sRuled) := ⟨rfl, rfl, rfl, by decide +kernel, rfl, by decide +kernel, by decide +kernel⟩
theorem ok_ruled {f : Addr} {fd : FuncData} (F : Fun K "_law_ruled" "_law_ruled" sRuled f fd) (T : Txt K mg) (TP : TxtP K mg C) (TF : TxtF K mg CF) : FnOk P w K mg base CX0 1 f fd ["plan", "found"] (spRuled C CF) := by
  refine F.ok scRuled (fun vs H Q E h => ?_) (fun cdv A outer s H vs Q E hr h => ?_)
  · obtain ⟨p, s, t, b, ks, f, wk, cs, qs, u, rfl, _⟩ := h
    rfl
  obtain ⟨p, s0, t, b, ks, f, wk, cs, qs, u, rfl, hf, hp, okp, ev, hlt, k⟩ := h
  have nd := scRuled.nd
  have hu := hu_of hr
  refine ⟨_, Evl.pss_cut (ps_set (i := 2) nd rfl (.inr rfl) (pe_lc (own := [("at", 7)]) (g := gName 7) (by rfl) nd (pi_list (pe_fld (pv 1) rfl)) (blkOk_by (N := nRuled) (sc := defScope sRuled) (by decide +kernel))
        (fun _ _ _ _ _ => pg_name (i := 7) nd rfl (.inl rfl)) (fun _ _ _ _ _ => pts_nil) (fun _ _ _ _ _ => pe_ix (ixT K) (pfd K (pv 0)) (pv 7) (fun _ _ => rfl))))
    (Evl.pss_cut (ps_if (pt_not (pt_val (pe_callB (cr_all rfl) (by rfl) T.all (by decide +kernel) (pa_cons
        (pe_lc (own := [("at", 7)]) (g := gName 7) (by rfl) nd (pi_range1 rfl T.range (pa_cons (pe_callB call_len_seq (by rfl) T.len PySem.boot_len (pa_cons (pv 2) pa_nil)) pa_nil)) (blkOk_by (N := nRuled) (sc := defScope sRuled) (by decide +kernel))
          (fun _ _ _ _ _ => pg_name (i := 7) nd rfl (.inl rfl)) (fun _ _ _ _ _ => pts_nil)
          (fun _ _ _ _ _ => pe_cmpR op_eq (pe_ix (ixT K) (pe_ix (ixL K) (pv 2) (pv 7) (fun _ _ => rfl)) pe_int (fun _ _ => rfl)) (pe_ix (ixT K) (pe_ix (ixL K) (pv 2) (pe_op op_mod (pe_op op_add (pv 7) pe_int) (pe_callB (lenSK K) (by rfl) T.len PySem.boot_len (pa_cons (pv 2) pa_nil))) (fun _ _ => rfl)) pe_int (fun _ _ => rfl)) (nomark _))) pa_nil)))) (pss_one (ps_ret pe_bl)) pss_nil)
    (pss_cons (ps_set (i := 3) nd rfl (.inl rfl) pe_int)
    (pss_cons (ps_for PassesOwn.never rfl (pi_list (pe_fld (pv 1) rfl)) (pgT2 K 4 5 nd)
      (Evl.pss_cut (ps_if (PW.pt (pw_or (pt_not (pt_chain3 op_le op_lt op_le (pv 3) (pv 4) (pv 5) (pe_callB call_len_seq (by rfl) T.len PySem.boot_len (pa_cons (pv 2) pa_nil))))
          (pw_or1 (pt_cmpR (inSK K) pe_str (pe_lc (own := [("wire", 8)]) (g := gName 8) (by rfl) nd (pi_list (pe_slice sl_list (pv 2) (po_some (pv 4)) (po_some (pe_op op_sub (pv 5) pe_int)))) (blkOk_by (N := nRuled) (sc := defScope sRuled) (by decide +kernel))
            (fun _ _ _ _ _ => pg_name (i := 8) nd rfl (.inl rfl)) (fun _ _ _ _ _ => pts_nil) (fun _ _ _ _ _ => pe_ix (ixT K) (pv 8) pe_int (fun _ _ => rfl))) (by rfl))))) (pss_one (ps_ret pe_bl)) pss_nil)
      (Evl.pss_cut (ps_set (i := 6) nd rfl (.inl rfl) (pe_op op_cat (plst (pa_cons (pe_ix (ixT K) (pe_ix (ixL K) (pv 2) (pv 4) (fun _ _ => rfl)) pe_int (fun _ _ => rfl)) pa_nil))
          (pe_lc (own := [("wire", 8)]) (g := gName 8) (by rfl) nd (pi_list (pe_slice sl_list (pv 2) (po_some (pv 4)) (po_some (pv 5)))) (blkOk_by (N := nRuled) (sc := defScope sRuled) (by decide +kernel))
            (fun _ _ _ _ _ => pg_name (i := 8) nd rfl (.inl rfl)) (fun _ _ _ _ _ => pts_nil) (fun _ _ _ _ _ => pe_ix (ixT K) (pv 8) pe_int (fun _ _ => rfl)))))
      (Evl.pss_cut (ps_if (pt_cmpR op_lt (pe_callB (cr_sum rfl) (by rfl) T.sum (by decide +kernel) (pa_cons
          (pe_lc (own := [("gate", 9)]) (g := gName 9) (by rfl) nd (pi_list (pv 6)) (blkOk_by (N := nRuled) (sc := defScope sRuled) (by decide +kernel))
            (fun _ _ _ _ _ => pg_name (i := 9) nd rfl (.inl rfl)) (fun _ _ _ _ _ => pts_nil) (fun _ _ _ _ _ => pe_dget hu (pfd K (pv 0)) (pv 9) (fun _ _ => rfl))) pa_nil)) (pe_fld (pv 1) rfl) (nomark _)) (pss_one (ps_ret pe_bl)) pss_nil)
      (pss_one (ps_set (i := 3) nd rfl (.inl rfl) (pv 5)))))))
    (pss_one (ps_ret (pe_cmpR op_gt (pe_callB call_len_seq (by rfl) T.len PySem.boot_len (pa_cons (pe_fld (pv 1) rfl) pa_nil)) (pe_callB (cr_sum rfl) (by rfl) T.sum (by decide +kernel) (pa_cons
        (pe_lc (own := [("wire", 8)]) (g := gName 8) (by rfl) nd (pi_list (pv 2)) (blkOk_by (N := nRuled) (sc := defScope sRuled) (by decide +kernel))
          (fun _ _ _ _ _ => pg_name (i := 8) nd rfl (.inl rfl)) (fun _ _ _ _ _ => pts_nil) (fun _ _ _ _ _ => pe_ix (ixT K) (pv 8) pe_int (fun _ _ => rfl))) pa_nil)) (nomark _))))))), ?_⟩
  obtain ⟨dxf, mf, wf, cf, xf, hfp, hfm, hfw, hfc, hfx⟩ := hf.ex
  obtain ⟨dx, da, wa, xs, h1, h2, h3, h4⟩ := id hp
  have hwl := ev.wl
  have hcl := ev.cl
  have hxl := hfx.1
  have hql : wk.length = qs.length := ev.walk.len
  have ivl : (iV wk).length = wk.length := iV_len
  -- wires
  refine ⟨fun σ' G => ∃ (wl : Addr) (ys : List V), σ' = [some (.ref p), some (.ref s0), some (.ref wl), none, none, none, none, none, none, none] ∧ Same H G ∧ G wl = some (.lst ys) ∧ Al (WAt G) ys qs, ?_, ?_⟩
  · refine ⟨_, rfl, s0, CF, dxf, _, _, rfl, hfp, TF.cl, TF.nw, ff_w, wf, rfl, ⟨_, SqL.of hfw⟩, fun c nc => lc_it (walk_list (K := K) (a := wf) (xs := iV wk)) (fun j G => ∃ ys, Same H G ∧ G c = some (.lst ys) ∧ Al (WAt H) ys (qs.take j))
      ⟨[], same_upd nc, upd_same, Al.nil⟩ (fun j G _ hh => by obtain ⟨_, h, _⟩ := hh; exact SqL.of (h _ _ hfw)) ?_ ?_⟩
    · rintro j y G G' hj ⟨ys, sG, gc, hys⟩ ⟨eH, ey⟩
      obtain rfl : G = G' := eH.symm
      obtain ⟨i, hi, rfl⟩ := iV_at ey
      obtain ⟨q, hq, hw⟩ := ev.walk.at_.at hi
      obtain ⟨x, hx, aw, rfl, ha⟩ := h4.at' hw
      have hyl := hys.1
      rw [List.length_take] at hyl
      have hjl := (List.getElem?_eq_some_iff.mp hi).1
      refine ⟨rfl, _, rfl, p, C, dx, _, _, rfl, sG _ _ h1, TP.cl, TP.nW, fld_w, _, rfl, wa, xs, _, _, rfl, rfl, SqT.of (sG _ _ h3), atI_nat hx, ?_⟩
      refine ⟨ys, gc, szlM (by omega), ys ++ [.ref aw], sG.mut nc, upd_same, ?_⟩
      rw [take_succ_at hq]
      exact hys.snoc ⟨aw, rfl, ha⟩
    · rintro G ⟨ys, sG, gc, hys⟩
      rw [ivl, hql, List.take_length] at hys
      exact ⟨c, ys, rfl, sG, gc, hys.mono fun _ _ z => z.tups sG.tups⟩
  rintro σ' G1 ⟨wl, ys, rfl, s1, gw, hys⟩
  have hyl := hys.1
  -- each leads to the next
  refine ⟨fun σ' G => σ' = [some (.ref p), some (.ref s0), some (.ref wl), none, none, none, none, none, none, none] ∧ Same G1 G, ?_, ?_⟩
  · refine ⟨_, rfl, wl, _, rfl, .inl (SqL.of gw), _, rfl, by omega, by omega, fun c nc => lc_it (walk_range (lo := 0) (n := ys.length)) (fun j G => Same G1 G ∧ G c = some (.lst (((ys.take j).map fun _ => true).map V.bl)))
      ⟨same_upd nc, upd_same⟩ (fun _ _ _ _ => True.intro) ?_ ?_⟩
    · rintro j y G G' hj ⟨sG, gc⟩ ⟨eG, rfl⟩
      obtain rfl : G = G' := eG.symm
      have hx0 := List.getElem?_eq_getElem hj
      obtain ⟨q, hq, a1, ea1, ha1⟩ := hys.at hx0
      obtain ⟨q2, hq2, e12⟩ := ev.walk.next hq
      obtain ⟨x2, hx2, a2, ea2, ha2⟩ := hys.at' hq2
      have hjm : (0 + (j : Int) + 1) % ((ys.length : Nat) : Int) = (((j + 1) % qs.length : Nat) : Int) := by rw [Int.zero_add, hyl]; rfl
      subst ea2
      rw [ea1] at hx0
      refine ⟨rfl, _, rfl, _, rfl, wl, ys, _, _, rfl, rfl, SqL.of (sG _ _ gw), atI_mid (j := j) (by omega) hx0, a1, _, 1, _, rfl, rfl, SqT.of (sG _ _ ha1), at1, ?_⟩
      refine ⟨_, rfl, _, rfl, _, _, rfl, rfl, _, rfl, wl, ys, rfl, .inl (SqL.of (sG _ _ gw)), _, _, rfl, rfl, by omega, ?_⟩
      refine ⟨wl, ys, _, _, rfl, rfl, SqL.of (sG _ _ gw), atI_mid hjm hx2, a2, _, 0, _, rfl, rfl, SqT.of (sG _ _ ha2), at0, rfl, ?_⟩
      refine ⟨_, gc, ?_, sG.mut nc, ?_⟩
      · rw [List.length_map, List.length_map, List.length_take]; exact szlM (by omega)
      · have e0 : decide (V.str q.2.1 = V.str q2.1) = true := by rw [dec_str, e12]; exact decide_eq_true rfl
        rw [upd_same]
        show some (HO.lst (_ ++ [V.bl (decide (V.str q.2.1 = V.str q2.1))])) = _
        rw [e0, map_take_succ hx0, List.map_append]; rfl
    · rintro G ⟨sG, gc⟩
      rw [List.take_length] at gc
      refine ⟨c, _, rfl, SqL.of gc, _, rfl, ?_⟩
      rw [allTrue]
      exact iteF ⟨rfl, sG⟩
  rintro σ' G2 ⟨rfl, s2⟩
  have s2H := s1.trans s2
  have gw2 := s2 _ _ gw
  have hys2 := hys.mono fun _ _ z => z.tups s2.tups
  -- the pieces
  refine ⟨_, rfl, s0, CF, dxf, _, _, rfl, s2H _ _ hfp, TF.cl, TF.nc, ff_c, cf, rfl, ⟨_, SqL.of (s2H _ _ hfc)⟩, for_it (walk_list (K := K) (a := cf) (xs := xf)) (fun j σ' G => ∃ (last : Nat) (o4 o5 o6 : Option V), σ' = [some (.ref p), some (.ref s0), some (.ref wl), some (.int ((last : Nat) : Int)), o4, o5, o6, none, none, none] ∧ Same G2 G ∧ Apart last (cs.drop j) wk.length)
    ⟨0, none, none, none, rfl, Same.refl _, ev.apart⟩ (fun j σ' G _ hh => by obtain ⟨_, _, _, _, _, h, _⟩ := hh; exact SqL.of (h _ _ (s2H _ _ hfc))) ?_ ?_⟩
  · rintro j y σ' G G' hj ⟨last, o4, o5, o6, rfl, sG, hap⟩ ⟨eH, ey⟩
    obtain rfl : G = G' := eH.symm
    have sGH := s2H.trans sG
    obtain ⟨ct, hct, hca⟩ := hfx.at ey
    have hsg := ev.seg ct (List.mem_of_getElem? hct)
    have hcl' := (List.getElem?_eq_some_iff.mp hct).1
    have hd : cs.drop j = ct :: cs.drop (j + 1) := by
      rw [List.drop_eq_getElem_cons hcl']
      congr 1
      exact (List.getElem?_eq_some_iff.mp hct).2
    rw [hd] at hap
    cases ct with
    | inl x => exact hsg.elim
    | inr ab =>
    obtain ⟨a, e⟩ := ab
    obtain ⟨tp, rfl, htp⟩ := hca
    obtain ⟨p1, p2, p3, p4⟩ := hap
    obtain ⟨_, _, u2, z, hh, D, wW, hbD⟩ := hsg
    obtain ⟨q, qs0, a1, a2, a3, a4, _⟩ := wW.seg
    have hS : (qs.drop a).take (e - a) = q :: qs0 := ats_uniq (ats_seg ev.walk.at_ a e) a1
    have hSl : (q :: qs0).length = e - a := by rw [← hS, List.length_take, List.length_drop]; omega
    have hheads := lk_heads a2
    have gwG := sG _ _ gw2
    have hysG := hys2.mono fun _ _ z => z.tups sG.tups
    refine ⟨tp, _, rfl, SqT.of (sGH _ _ htp), rfl, _, _, rfl, _, _, rfl, rfl, ?_⟩
    -- in order, none but the ends is the outside
    refine ⟨fun σ' G' => σ' = [some (.ref p), some (.ref s0), some (.ref wl), some (.int ((last : Nat) : Int)), some (.int ((a : Nat) : Int)), some (.int ((e : Nat) : Int)), o6, none, none, none] ∧ Same G G', ?_, ?_⟩
    · refine ⟨_, rfl, _, rfl, _, _, rfl, rfl, _, rfl, ?_⟩
      rw [decide_eq_true (show ((last : Nat) : Int) ≤ ((a : Nat) : Int) by omega)]
      refine iteT ⟨_, rfl, _, _, rfl, rfl, _, rfl, ?_⟩
      rw [decide_eq_true (show ((a : Nat) : Int) < ((e : Nat) : Int) by omega)]
      refine iteT ⟨_, rfl, wl, ys, rfl, .inl (SqL.of gwG), _, _, rfl, rfl, _, rfl, ?_⟩
      rw [decide_eq_true (show ((e : Nat) : Int) ≤ ((ys.length : Nat) : Int) by omega)]
      refine iteF ?_
      refine ⟨_, rfl, _, rfl, _, rfl, _, rfl, _, _, rfl, rfl, _, rfl, wl, ys, rfl, SqL.of gwG, fun l nl => ?_⟩
      rw [show ((e : Nat) : Int) - 1 = ((e - 1 : Nat) : Int) by omega, cut_mid (by omega) (by omega)]
      have s3 := same_upd (o := HO.lst ((ys.drop a).take (e - 1 - a))) nl
      have hl : upd G l (.lst ((ys.drop a).take (e - 1 - a))) l = some (.lst ((ys.drop a).take (e - 1 - a))) := upd_same
      generalize upd G l (.lst ((ys.drop a).take (e - 1 - a))) = G3 at s3 hl ⊢
      have hsub := ((hysG.drop a).take (e - 1 - a)).mono (S := WAt G3) fun _ _ z => z.tups s3.tups
      have hT : (qs.drop a).take (e - 1 - a) = (q :: qs0).take (e - 1 - a) := by rw [← hS, List.take_take, Nat.min_eq_left (by omega)]
      have hH : ((qs.drop a).take (e - 1 - a)).map (fun x => x.2.1) = qs0.map fun x => x.1 := by
        rw [hT, List.map_take, hheads, List.take_left' (by rw [List.length_map]; simp only [List.length_cons] at hSl; omega)]
      refine ⟨l, rfl, ⟨_, SqL.of hl⟩, fun c nc => lc_it (walk_list (K := K) (a := l) (xs := (ys.drop a).take (e - 1 - a))) (fun j G' => Same G3 G' ∧ G' c = some (.lst (((((qs.drop a).take (e - 1 - a)).take j).map fun x => x.2.1).map V.str)))
        ⟨same_upd nc, upd_same⟩ (fun j G' _ hh => SqL.of (hh.1 _ _ hl)) ?_ ?_⟩
      · rintro i y GX GY hi ⟨sX, gc⟩ ⟨eG, hy⟩
        obtain rfl : GX = GY := eG.symm
        obtain ⟨q', hq', aw, rfl, haw⟩ := hsub.at hy
        refine ⟨rfl, _, rfl, aw, _, 1, _, rfl, rfl, SqT.of (sX _ _ haw), at1, ?_⟩
        have hil : i < ((ys.drop a).take (e - 1 - a)).length := hi
        rw [List.length_take, List.length_drop] at hil
        refine ⟨_, gc, ?_, sX.mut nc, ?_⟩
        · rw [List.length_map, List.length_map, List.length_take]; exact szlM (by omega)
        · rw [upd_same, take_succ_at hq', List.map_append, List.map_append]; rfl
      · rintro G' ⟨sX, gc⟩
        rw [hsub.1, List.take_length, hH] at gc
        refine ⟨c, _, rfl, .inl (SqL.of gc), rfl, flat_strs, _, rfl, ?_⟩
        show if inV (.str out) ((qs0.map fun x => x.1).map V.str) = true then _ else _
        rw [inV_str, decide_eq_false (fun h => by
          obtain ⟨x, hx, ex⟩ := List.mem_map.mp h
          exact a3 x hx ex)]
        exact iteF ⟨rfl, s3.trans sX⟩
    rintro σ' G3 ⟨rfl, s3⟩
    have gw3 := s3 _ _ gwG
    have hys3 := hysG.mono (S := WAt G3) fun _ _ z => z.tups s3.tups
    -- gates
    refine ⟨fun σ' G' => ∃ gl : Addr, σ' = [some (.ref p), some (.ref s0), some (.ref wl), some (.int ((last : Nat) : Int)), some (.int ((a : Nat) : Int)), some (.int ((e : Nat) : Int)), some (.ref gl), none, none, none] ∧ Same G3 G' ∧ G' gl = some (.lst ((((q :: qs0).map fun x => x.1) ++ [z]).map V.str)), ?_, ?_⟩
    · have hq0 : qs[a]? = some q := by
        have : ((qs.drop a).take (e - a))[0]? = some q := by rw [hS]; rfl
        rw [List.getElem?_take, if_pos (by omega), List.getElem?_drop] at this
        exact this
      obtain ⟨x0, hx0, aw0, rfl, haw0⟩ := hys3.at' hq0
      refine ⟨_, rfl, _, rfl, wl, ys, _, _, rfl, rfl, SqL.of gw3, atI_nat hx0, aw0, _, 0, _, rfl, rfl, SqT.of haw0, at0, rd_l1 fun l1 G4 nl1 s4 hl1 => ?_⟩
      have gw4 := s4 _ _ gw3
      refine ⟨_, rfl, _, rfl, _, rfl, _, rfl, _, rfl, wl, ys, rfl, SqL.of gw4, fun l nl => ?_⟩
      rw [cut_mid (by omega) (by omega)]
      have s5 := same_upd (o := HO.lst ((ys.drop a).take (e - a))) nl
      have hl : upd G4 l (.lst ((ys.drop a).take (e - a))) l = some (.lst ((ys.drop a).take (e - a))) := upd_same
      generalize upd G4 l (.lst ((ys.drop a).take (e - a))) = G5 at s5 hl ⊢
      have s35 := s4.trans s5
      have hsub := ((hys3.drop a).take (e - a)).mono (S := WAt G5) fun _ _ z => z.tups s35.tups
      rw [hS] at hsub
      refine ⟨l, rfl, ⟨_, SqL.of hl⟩, fun c nc => lc_it (walk_list (K := K) (a := l) (xs := (ys.drop a).take (e - a))) (fun j G' => Same G5 G' ∧ G' c = some (.lst ((((q :: qs0).take j).map fun x => x.2.1).map V.str)))
        ⟨same_upd nc, upd_same⟩ (fun j G' _ hh => SqL.of (hh.1 _ _ hl)) ?_ ?_⟩
      · rintro i y GX GY hi ⟨sX, gc⟩ ⟨eG, hy⟩
        obtain rfl : GX = GY := eG.symm
        obtain ⟨q', hq', aw, rfl, haw⟩ := hsub.at hy
        refine ⟨rfl, _, rfl, aw, _, 1, _, rfl, rfl, SqT.of (sX _ _ haw), at1, ?_⟩
        refine ⟨_, gc, ?_, sX.mut nc, ?_⟩
        · rw [List.length_map, List.length_map, List.length_take]; exact szlM (by omega)
        · rw [upd_same, take_succ_at hq', List.map_append, List.map_append]; rfl
      · rintro G' ⟨sX, gc⟩
        rw [hsub.1, List.take_length, hheads] at gc
        refine ⟨l1, c, _, _, rfl, rfl, (s5.trans sX) _ _ hl1, gc, ?_, fun l2 nl2 => ⟨l2, rfl, (s35.trans sX).trans (same_upd nl2), ?_⟩⟩
        · rw [List.length_map, List.length_append, List.length_map]
          simp only [List.length_cons, List.length_nil] at hSl ⊢
          exact Nat.le_of_lt (szlM (by omega))
        · rw [upd_same, List.map_append, List.map_cons, List.map_append, List.map_cons]; rfl
    rintro σ' G4 ⟨gl, rfl, s4, ggl⟩
    have s4G := s3.trans s4
    have s4H := sGH.trans s4G
    have gk : ∀ n ∈ ((q :: qs0).map fun x => x.1) ++ [z], n ∈ t.ks := fun n hn => by
      rcases List.mem_append.mp hn with hn | hn
      · obtain ⟨x, hx, rfl⟩ := List.mem_map.mp hn
        obtain ⟨j, hj, e9⟩ := List.mem_iff_getElem.mp hx
        have hq : (q :: qs0)[j]? = some x := by rw [List.getElem?_eq_getElem hj, e9]
        have hjp : j < ((wk.drop a).take (e - a)).length := by rw [a1.1]; exact hj
        exact (okp.ends x (List.mem_of_getElem? (a1.2 j _ x (List.getElem?_eq_getElem hjp) hq))).1
      · rw [List.mem_singleton.mp hn]
        obtain ⟨_, q2, hq2, e2⟩ := wW.ends
        rw [← e2]; exact (okp.ends q2 hq2).2
    -- long enough
    refine ⟨fun σ' G' => σ' = [some (.ref p), some (.ref s0), some (.ref wl), some (.int ((last : Nat) : Int)), some (.int ((a : Nat) : Int)), some (.int ((e : Nat) : Int)), some (.ref gl), none, none, none] ∧ Same G4 G', ?_, ?_⟩
    · refine ⟨_, rfl, gl, rfl, ⟨_, SqL.of ggl⟩, fun c nc => lc_it (walk_list (K := K) (a := gl) (xs := (((q :: qs0).map fun x => x.1) ++ [z]).map V.str)) (fun j G' => Same G4 G' ∧ G' c = some (.lst ((((((q :: qs0).map fun x => x.1) ++ [z]).take j).map t.d).map V.int)))
        ⟨same_upd nc, upd_same⟩ (fun j G' _ hh => SqL.of (hh.1 _ _ ggl)) ?_ ?_⟩
      · rintro j y GX GY hj ⟨sX, gc⟩ ⟨eG, hy⟩
        obtain rfl : GX = GY := eG.symm
        obtain ⟨n, hn, rfl⟩ := map_at hy
        have hnk := gk n (List.mem_of_getElem? hn)
        have sXH := s4H.trans sX
        refine ⟨rfl, _, rfl, p, C, dx, _, _, rfl, sXH _ _ h1, TP.cl, TP.nD, fld_d, _, rfl, da, _, rfl, by rw [← kN_get (wf := t.d) hnk]; exact .inl ⟨_, Sum.inr n, .inl (sXH _ _ h2), rfl, rfl⟩, ?_⟩
        refine ⟨_, gc, ?_, sX.mut nc, ?_⟩
        · rw [List.length_map, List.length_map, List.length_take, List.length_append, List.length_map, hSl]; exact szlM (by simp only [List.length_cons, List.length_nil]; omega)
        · rw [upd_same, take_succ_at hn, List.map_append, List.map_append]; rfl
      · rintro G' ⟨sX, gc⟩
        rw [List.length_map, List.take_length] at gc
        refine ⟨c, _, rfl, SqL.of gc, ?_⟩
        have sXH := s4H.trans sX
        have eS : ((((q :: qs0).map fun x => x.1) ++ [z]).map t.d).sum = D := by
          have e0 : ((q :: qs0).map fun x => x.1).map t.d = (q :: qs0).map fun x => t.d x.1 := by rw [List.map_map]; rfl
          have e1 : ([z].map t.d).sum = t.d z := by simp
          rw [List.map_append, List.sum_append, e0, e1]
          exact a4
        rw [eS]
        refine ⟨_, rfl, s0, CF, dxf, _, _, rfl, sXH _ _ hfp, TF.cl, TF.nb, ff_b, _, _, rfl, rfl, _, rfl, ?_⟩
        rw [decide_eq_false (show ¬ D < b by omega)]
        exact iteF ⟨rfl, sX⟩
    rintro σ' G5 ⟨rfl, s5⟩
    exact ⟨_, rfl, e, _, _, _, rfl, (sG.trans s4G).trans s5, p4⟩
  · rintro σ' G ⟨last, o4, o5, o6, rfl, sG, _⟩
    have sGH := s2H.trans sG
    have gwG := sG _ _ gw2
    have hysG := hys2.mono (S := WAt G) fun _ _ z => z.tups sG.tups
    refine ⟨_, rfl, s0, CF, dxf, _, _, rfl, sGH _ _ hfp, TF.cl, TF.nc, ff_c, cf, xf, rfl, .inl (SqL.of (sGH _ _ hfc)), ?_⟩
    refine ⟨_, rfl, wl, rfl, ⟨_, SqL.of gwG⟩, fun c nc => lc_it (walk_list (K := K) (a := wl) (xs := ys)) (fun j G' => Same G G' ∧ G' c = some (.lst (((qs.take j).map fun q => q.2.2).map V.int)))
      ⟨same_upd nc, upd_same⟩ (fun j G' _ hh => SqL.of (hh.1 _ _ gwG)) ?_ ?_⟩
    · rintro j y GX GY hj ⟨sX, gc⟩ ⟨eG, hy⟩
      obtain rfl : GX = GY := eG.symm
      obtain ⟨q', hq', aw, rfl, haw⟩ := hysG.at hy
      refine ⟨rfl, _, rfl, aw, _, 2, _, rfl, rfl, SqT.of (sX _ _ haw), at2, ?_⟩
      refine ⟨_, gc, ?_, sX.mut nc, ?_⟩
      · rw [List.length_map, List.length_map, List.length_take]; exact szlM (by omega)
      · rw [upd_same, take_succ_at hq', List.map_append, List.map_append]; rfl
    · rintro G' ⟨sX, gc⟩
      rw [hyl, List.take_length] at gc
      refine ⟨c, _, rfl, SqL.of gc, _, _, rfl, rfl, ?_⟩
      rw [hxl]
      show Q (.bl (decide ((qs.map fun q => q.2.2).sum < ((cs.length : Nat) : Int)))) G'
      rw [decide_eq_true hlt]
      exact k G' (sGH.trans sX)
end
end PN
namespace PN
open PySem PySem.Spec PyProof.Rows L2 LayT
/-! ### the law's plans -/
def gateTexts : List Str := ["ab", "abc", "abcd", "abcde"]
def GsOk (gs : List Str) : Prop := ∃ z ∈ gateTexts, gs = sgs z
theorem gs_all {Pr : List Str → Prop} (h1 : Pr (sgs "ab")) (h2 : Pr (sgs "abc")) (h3 : Pr (sgs "abcd")) (h4 : Pr (sgs "abcde")) {gs : List Str} (h : GsOk gs) : Pr gs := by
  obtain ⟨z, hz, rfl⟩ := h
  unfold gateTexts at hz
  rcases List.mem_cons.mp hz with rfl | hz
  · exact h1
  rcases List.mem_cons.mp hz with rfl | hz
  · exact h2
  rcases List.mem_cons.mp hz with rfl | hz
  · exact h3
  rw [List.mem_singleton.mp hz]
  exact h4
theorem GsOk.nd {gs : List Str} (h : GsOk gs) : (gs ++ [out]).Nodup := gs_all (Pr := fun gs => (gs ++ [out]).Nodup) (by decide +kernel) (by decide +kernel) (by decide +kernel) (by decide +kernel) h
theorem GsOk.len {gs : List Str} (h : GsOk gs) : 2 ≤ gs.length ∧ gs.length ≤ 5 := gs_all (Pr := fun gs => 2 ≤ gs.length ∧ gs.length ≤ 5) (by decide +kernel) (by decide +kernel) (by decide +kernel) (by decide +kernel) h
theorem GsOk.wrd {gs : List Str} (h : GsOk gs) : ∀ n ∈ gs, isWrd (.str n) = true := gs_all (Pr := fun gs => ∀ n ∈ gs, isWrd (.str n) = true) (by decide +kernel) (by decide +kernel) (by decide +kernel) (by decide +kernel) h
theorem GsOk.str {gs : List Str} (h : GsOk gs) : ∀ n ∈ gs ++ [out], PyData.strOk n = true ∧ n.length ≤ 100 := gs_all (Pr := fun gs => ∀ n ∈ gs ++ [out], PyData.strOk n = true ∧ n.length ≤ 100) (by decide +kernel) (by decide +kernel) (by decide +kernel) (by decide +kernel) h
theorem GsOk.a {gs : List Str} (h : GsOk gs) : ("a" : Str) ∈ gs := gs_all (Pr := fun gs => ("a" : Str) ∈ gs) (by decide +kernel) (by decide +kernel) (by decide +kernel) (by decide +kernel) h
structure PlnOk (gs : List Str) (d : Str → Int) (ws : List W3) : Prop where
  g : GsOk gs
  dd : ∀ n ∈ gs, 0 ≤ d n ∧ d n ≤ 5
  wl : ws.length ≤ 9
  ww : ∀ q ∈ ws, q.1 ∈ gs ++ [out] ∧ q.2.1 ∈ gs ++ [out] ∧ 0 ≤ q.2.2 ∧ q.2.2 ≤ 4
  wp : 1 ≤ ws.length
theorem slice_gs {r : Int} (h0 : 0 ≤ r) (h1 : r < 4) : Txt.slice "abcde" none (some (2 + r)) ∈ gateTexts := by
  have : r = 0 ∨ r = 1 ∨ r = 2 ∨ r = 3 := by omega
  rcases this with rfl | rfl | rfl | rfl <;> decide +kernel
theorem gate_sz {z : Str} (h : z ∈ gateTexts) : 2 ≤ z.cps.size ∧ z.cps.size ≤ 5 ∧ z.length = z.cps.size := by
  have : ∀ z ∈ gateTexts, 2 ≤ z.cps.size ∧ z.cps.size ≤ 5 ∧ z.length = z.cps.size := by decide +kernel
  exact this z h
section
variable {P : Program} {w : World} {K : PySem.W.Frag} {mg : Str → Option Value} {base : Heap}
def spLPlan (K : PySem.W.Frag) : Sp := fun vs H Q _ => ∃ (a : Addr) (ns : List Int) (n0 : Int), vs = [.ref a, .int n0] ∧ SqL K H a (ns.map V.int) ∧ ns.length ≤ 63 ∧ 0 ≤ n0 ∧ n0 ≤ 1000 ∧
  ∀ r da wa H' gs d ws xs, Same H H' → H' r = some (.tup [.ref da, .ref wa]) → H' da = some (.dK (kN gs d)) → H' wa = some (.lst xs) → Al (WAt H') xs ws → PlnOk gs d ws → Q (.ref r) H'
abbrev nLPlan : List Str := ["script", "at", "names", "delays", "name", "spot", "ends", "wires", "turn"]
theorem scLPlan : FnScope nLPlan ["script", "at"] (defScope sLPlan) := ⟨rfl, rfl, rfl, by decide +kernel, rfl, by decide +kernel, by decide +kernel⟩
theorem ok_lplan {fD f : Addr} {fdD fd : FuncData} (F : Fun K "_law_plan" "_law_plan" sLPlan f fd) (T : Txt K mg) (DD : Dfn P w K mg base "_law_draw" 1 ["script", "at", "many"] (spDraw K) fD fdD) : FnOk P w K mg base CX0 2 f fd ["script", "at"] (spLPlan K) := by
  refine F.ok scLPlan (fun vs H Q E h => ?_) (fun cdv A outer s H vs Q E hr h => ?_)
  · obtain ⟨a, ns, n0, rfl, _⟩ := h
    rfl
  obtain ⟨a, ns, n0, rfl, hS, hlen, hn0, hn1, k⟩ := h
  have nd := scLPlan.nd
  have hu := hu_of hr
  refine ⟨_, pss_cons (ps_set (i := 2) nd rfl (.inl rfl) (pe_slice C8.sl_txt pe_str po_none (po_some (pe_op op_add pe_int (pcl DD hr (pa_cons (pv 0) (pa_cons (pv 1) (pa_cons pe_int pa_nil))))))))
    (Evl.pss_cut (ps_set (i := 3) nd rfl (.inl rfl) (pe_callTy (dictPK K) (by rfl) T.dict (by decide +kernel) (pa_cons
        (pe_lc (own := [("name", 4), ("spot", 5)]) (by rfl) nd (pi_enumS (by rfl) T.enumerate (pa_cons (pv 2) pa_nil)) (blkOk_by (N := nLPlan) (sc := defScope sLPlan) (by decide +kernel))
          (fun _ _ _ _ _ => pgT2 K 5 4 nd) (fun _ _ _ _ _ => pts_nil)
          (fun _ _ _ _ _ => ptupN (pa_cons (pv 4) (pa_cons (pcl DD hr (pa_cons (pv 0) (pa_cons (pe_op op_add (pe_op op_add (pv 1) pe_int) (pv 5)) (pa_cons pe_int pa_nil)))) pa_nil)))) pa_nil)))
    (pss_cons (ps_par (i := 6) (j := 7) (by rfl) nd rfl rfl (by decide) rfl rfl (pa_cons (pe_op op_cat (pe_callTy (cr_listS rfl) (by rfl) T.list (by decide +kernel) (pa_cons (pv 2) pa_nil)) (plst (pa_cons pe_str pa_nil))) (pa_cons (plst pa_nil) pa_nil)) (by rfl))
    (Evl.pss_cut (ps_for PassesOwn.never rfl (pi_range1 rfl T.range (pa_cons (pe_op op_add (pe_callB call_len_str (by rfl) T.len PySem.boot_len (pa_cons (pv 2) pa_nil)) (pcl DD hr (pa_cons (pv 0) (pa_cons (pe_op op_add (pv 1) pe_int) (pa_cons pe_int pa_nil))))) pa_nil)) (pg_name (i := 8) nd rfl (.inl rfl))
      (pss_cons (ps_set (i := 5) nd rfl (.inl rfl) (pe_op op_add (pe_op op_add (pv 1) pe_int) (pe_op op_mul pe_int (pv 8))))
      (pss_one (ps_expr (pe_bm PySem.F.plainAttrs_list PySem.F.slot_list_append PySem.F.type_list_append mt_append (pv 7) (pa_cons (ptup
        (pa_cons (pe_ix (ixL K) (pv 6) (pcl DD hr (pa_cons (pv 0) (pa_cons (pv 5) (pa_cons (pe_callB call_len_seq (by rfl) T.len PySem.boot_len (pa_cons (pv 6) pa_nil)) pa_nil)))) (fun _ _ => rfl))
        (pa_cons (pe_ix (ixL K) (pv 6) (pcl DD hr (pa_cons (pv 0) (pa_cons (pe_op op_add (pv 5) pe_int) (pa_cons (pe_callB call_len_seq (by rfl) T.len PySem.boot_len (pa_cons (pv 6) pa_nil)) pa_nil)))) (fun _ _ => rfl))
        (pa_cons (pe_ix (ixT K) (ptup (pa_cons pe_int (pa_cons pe_int (pa_cons pe_int (pa_cons pe_int (pa_cons pe_int pa_nil)))))) (pcl DD hr (pa_cons (pv 0) (pa_cons (pe_op op_add (pv 5) pe_int) (pa_cons pe_int pa_nil)))) (fun _ _ => rfl)) pa_nil)))) pa_nil))))))
    (pss_one (ps_ret (ptup (pa_cons (pv 3) (pa_cons (pv 7) pa_nil)))))))), ?_⟩
  refine ⟨_, rfl, _, rfl, a, ns, n0, 4, rfl, hS, hlen, hn0, by omega, by decide, by decide, fun H1 r s1 r0 r1 => ⟨_, _, rfl, rfl, _, rfl, _, rfl, sz (by decide), ?_⟩⟩
  have hz := slice_gs r0 r1
  generalize Txt.slice "abcde" none (some (2 + r)) = z at hz ⊢
  obtain ⟨z2, z5, zl⟩ := gate_sz hz
  have hG : GsOk (sgs z) := ⟨z, hz, rfl⟩
  have gnd : (sgs z).Nodup := (List.nodup_append.mp hG.nd).1
  have gl : (sgs z).length = z.cps.size := by unfold sgs; rw [List.length_map, Array.length_toList]
  -- the delays
  refine ⟨fun σ' G => ∃ (D : Addr) (d : Str → Int), σ' = [some (.ref a), some (.int n0), some (.str z), some (.ref D), none, none, none, none, none] ∧ Same H G ∧ G D = some (.dK (kN (sgs z) d)) ∧ ∀ n ∈ sgs z, 0 ≤ d n ∧ d n ≤ 5, ?_, ?_⟩
  · refine ⟨_, rfl, z, rfl, fun c nc => lc_it (walk_enumS (z := z)) (fun j G => ∃ (ps : List Addr) (d : Str → Int), Same H1 G ∧ G c = some (.lst (ps.map V.ref)) ∧ ps.length = j ∧ (∀ (i : Nat) p n, ps[i]? = some p → (sgs z)[i]? = some n → G p = some (.tup [.str n, .int (d n)])) ∧ ∀ n ∈ (sgs z).take j, 0 ≤ d n ∧ d n ≤ 5)
      ⟨[], fun _ => 0, same_upd nc, upd_same, rfl, fun i p n h => by simp at h, fun n h => by simp at h⟩ (fun _ _ _ _ => True.intro) ?_ ?_⟩
    · rintro j y G G' hj ⟨ps, d, sG, gc, hpl, hps, hd⟩ ⟨Tt, x1, x2, rfl, nT, rfl, e1, e2⟩
      cases e1
      obtain ⟨cc, hcc, rfl⟩ := Option.map_eq_some_iff.mp e2
      have hgj := sgs_at hcc
      have hjz : j < z.cps.size := hj
      have sT := same_upd (o := HO.tup [V.int (j : Nat), V.str ⟨#[cc]⟩]) nT
      have sG1 := sG.trans sT
      have gc1 := sT _ _ gc
      have hTt : upd G Tt (.tup [V.int (j : Nat), V.str ⟨#[cc]⟩]) Tt = some (.tup [V.int (j : Nat), V.str ⟨#[cc]⟩]) := upd_same
      have hps1 : ∀ (i : Nat) p n, ps[i]? = some p → (sgs z)[i]? = some n → upd G Tt (.tup [V.int (j : Nat), V.str ⟨#[cc]⟩]) p = some (.tup [.str n, .int (d n)]) := fun i p n h1 h2 => sT _ _ (hps i p n h1 h2)
      generalize upd G Tt (.tup [V.int (j : Nat), V.str ⟨#[cc]⟩]) = G1 at sG1 gc1 hTt hps1 ⊢
      refine ⟨Tt, _, rfl, SqT.of hTt, rfl, _, _, rfl, _, _, rfl, rfl, rfl, ?_⟩
      refine ⟨_, rfl, _, rfl, _, rfl, _, _, rfl, rfl, _, rfl, _, _, rfl, rfl, a, ns, _, 6, rfl, (s1.trans sG1).seq hS, hlen, by omega, by omega, by decide, by decide, fun G2 r2 s2 r20 r21 => rd_t2 fun p G3 s3 hp => ?_⟩
      have s23 := s2.trans s3
      refine ⟨_, s23 _ _ gc1, by rw [List.length_map]; exact szl (by omega), ps ++ [p], fun x => if x = (⟨#[cc]⟩ : Str) then r2 else d x, (sG1.trans s23).mut nc, by rw [upd_same, List.map_append]; rfl, by rw [List.length_append, hpl]; rfl, fun i p' n h1 h2 => ?_, fun n hn => ?_⟩
      · have nc3 := s23 _ _ gc1
        have hpc : ∀ (q : Addr) (xs : List V), G3 q = some (.tup xs) → q ≠ c := fun q xs e w => by rw [w, nc3] at e; cases e
        by_cases hi : i < ps.length
        · rw [List.getElem?_append_left hi] at h1
          have q1 := s23 _ _ (hps1 i p' n h1 h2)
          have hne : n ≠ (⟨#[cc]⟩ : Str) := fun e => by
            subst e
            have := (List.getElem?_inj (by rw [gl]; omega) gnd).mp (h2.trans hgj.symm)
            omega
          rw [upd_ne (hpc _ _ q1), q1]
          dsimp only
          rw [if_neg hne]
        · rw [List.getElem?_append_right (by omega)] at h1
          have hi0 : i - ps.length = 0 := by
            rcases Nat.eq_zero_or_pos (i - ps.length) with e | e
            · exact e
            · rw [List.getElem?_eq_none (by simp; omega)] at h1; cases h1
          rw [hi0] at h1
          cases h1
          have ei : i = j := by omega
          subst ei
          rw [hgj] at h2
          cases h2
          rw [upd_ne (hpc _ _ hp), hp]
          dsimp only
          rw [if_pos rfl]
      · rw [take_succ_at hgj] at hn
        dsimp only
        by_cases e : n = (⟨#[cc]⟩ : Str)
        · rw [if_pos e]; omega
        · rw [if_neg e]
          rcases List.mem_append.mp hn with hn | hn
          · exact hd n hn
          · exact absurd (List.mem_singleton.mp hn) e
    · rintro G ⟨ps, d, sG, gc, hpl, hps, hd⟩
      rw [← gl, List.take_length] at hd
      refine ⟨c, ps, kN (sgs z) d, rfl, SqL.of gc, paired_idx (by rw [kN_len, hpl, gl]) fun i p kv h1 h2 => ?_, fun D nD => ⟨D, d, rfl, (s1.trans sG).trans (same_upd nD), ?_, hd⟩⟩
      · unfold kN at h2
        rw [List.getElem?_map] at h2
        obtain ⟨n, hn, rfl⟩ := Option.map_eq_some_iff.mp h2
        exact SqT.of (hps i p n h1 hn)
      · rw [upd_same]
        have := merge_kN (sgs z) [] d (by simpa using gnd)
        rw [List.nil_append] at this
        exact congrArg (fun x => some (HO.dK x)) this
  rintro σ' G ⟨D, d, rfl, sG, gD, hd⟩
  -- ends, wires
  refine ⟨_, rfl, z, rfl, sz (by omega), fun l1 nl1 => ?_⟩
  have t1 := same_upd (o := HO.lst ((sgs z).map V.str)) nl1
  have g1 : upd G l1 (.lst ((sgs z).map V.str)) l1 = some (.lst ((sgs z).map V.str)) := upd_same
  generalize upd G l1 (.lst ((sgs z).map V.str)) = G1 at t1 g1 ⊢
  refine rd_l1 fun l2 G2 nl2 t2 g2 => ⟨l1, l2, _, _, rfl, rfl, t2 _ _ g1, g2, sz (by rw [List.length_map]; simp; omega), fun Ee nE => ?_⟩
  have t3 := same_upd (o := HO.lst ((sgs z).map V.str ++ [V.str "out"])) nE
  have gE : upd G2 Ee (.lst ((sgs z).map V.str ++ [V.str "out"])) Ee = some (.lst ((sgs z ++ [out]).map V.str)) := by rw [upd_same, List.map_append]; rfl
  generalize upd G2 Ee (.lst ((sgs z).map V.str ++ [V.str "out"])) = G3 at t3 gE ⊢
  refine rd_l0 fun W G4 nW t4 gW => ?_
  have t14 := ((t1.trans t2).trans t3).trans t4
  have sG4 := sG.trans t14
  have gD4 := t14 _ _ gD
  have gE4 := t4 _ _ gE
  have nWH : H W = none := ((sG.trans t1).trans (t2.trans t3)).free nW
  refine ⟨_, _, rfl, ?_⟩
  have hel : (sgs z ++ [out]).length = (sgs z).length + 1 := by rw [List.length_append]; rfl
  -- the wires
  refine ⟨fun σ' G5 => ∃ (o5 o8 : Option V) (xs : List V) (ws : List W3), σ' = [some (.ref a), some (.int n0), some (.str z), some (.ref D), none, o5, some (.ref Ee), some (.ref W), o8] ∧ Same H G5 ∧ G5 D = some (.dK (kN (sgs z) d)) ∧ G5 W = some (.lst xs) ∧ Al (WAt G5) xs ws ∧ (1 ≤ ws.length ∧ ws.length ≤ 9) ∧
      ∀ q ∈ ws, q.1 ∈ sgs z ++ [out] ∧ q.2.1 ∈ sgs z ++ [out] ∧ 0 ≤ q.2.2 ∧ q.2.2 ≤ 4, ?_, ?_⟩
  · refine ⟨_, rfl, z, rfl, sz (by omega), _, rfl, _, rfl, _, _, rfl, rfl, a, ns, _, 5, rfl, sG4.seq hS, hlen, by omega, by omega, by decide, by decide, fun G5 r5 s5 r50 r51 => ⟨_, _, rfl, rfl, _, rfl, by omega, by omega, ?_⟩⟩
    have gD5 := s5 _ _ gD4
    have gE5 := s5 _ _ gE4
    refine for_range (n := (((z.length : Nat) : Int) + r5).toNat) (fun j σ' G6 => ∃ (o5 o8 : Option V) (xs : List V) (ws : List W3), σ' = [some (.ref a), some (.int n0), some (.str z), some (.ref D), none, o5, some (.ref Ee), some (.ref W), o8] ∧ Same H G6 ∧ G6 D = some (.dK (kN (sgs z) d)) ∧ G6 Ee = some (.lst ((sgs z ++ [out]).map V.str)) ∧ G6 W = some (.lst xs) ∧ Al (WAt G6) xs ws ∧ ws.length = j ∧
        ∀ q ∈ ws, q.1 ∈ sgs z ++ [out] ∧ q.2.1 ∈ sgs z ++ [out] ∧ 0 ≤ q.2.2 ∧ q.2.2 ≤ 4)
      ⟨_, _, [], [], rfl, sG4.trans s5, gD5, gE5, s5 _ _ gW, Al.nil, rfl, fun q hq => by cases hq⟩ ?_ ?_
    · rintro j σ' G6 hj ⟨o5, o8, xs, ws, rfl, s6, gD6, gE6, gW6, hal, hwl, hww⟩
      have hj9 : j < 9 := by omega
      have nDW : D ≠ W := fun w => by rw [w, gW6] at gD6; cases gD6
      have nEW : Ee ≠ W := fun w => by rw [w, nW] at gE; cases gE
      have pick : ∀ r : Int, 0 ≤ r → r < ((sgs z ++ [out]).map V.str).length → ∃ n, n ∈ sgs z ++ [out] ∧ atI ((sgs z ++ [out]).map V.str) r = some (.str n) := fun r h0 h1 => by
        obtain ⟨m, rfl⟩ := Int.eq_ofNat_of_zero_le h0
        rw [List.length_map] at h1
        have hm : m < (sgs z ++ [out]).length := by omega
        refine ⟨(sgs z ++ [out])[m], List.getElem_mem hm, atI_nat ?_⟩
        rw [List.getElem?_map, List.getElem?_eq_getElem hm]; rfl
      have hE1 : 1 ≤ (((sgs z ++ [out]).map V.str).length : Int) ∧ (((sgs z ++ [out]).map V.str).length : Int) ≤ 6 := by
        rw [List.length_map, hel]; omega
      refine ⟨_, rfl, _, _, rfl, rfl, _, rfl, _, _, rfl, rfl, .inl ⟨by decide, by decide⟩, _, _, rfl, rfl, ?_⟩
      refine ⟨_, rfl, .inl ⟨rfl, _, SqL.of gW6⟩, ?_⟩
      refine ⟨_, rfl, _, rfl, _, rfl, _, rfl, Ee, _, rfl, .inl (SqL.of gE6), a, ns, _, _, rfl, s6.seq hS, hlen, by omega, by omega, hE1.1, by omega, fun G7 ra s7 ra0 ra1 => ?_⟩
      obtain ⟨n1, hn1, at1⟩ := pick ra ra0 ra1
      refine ⟨Ee, _, _, _, rfl, rfl, SqL.of (s7 _ _ gE6), at1, ?_⟩
      refine ⟨_, rfl, _, rfl, _, rfl, _, _, rfl, rfl, _, rfl, Ee, _, rfl, .inl (SqL.of (s7 _ _ gE6)), a, ns, _, _, rfl, (s6.trans s7).seq hS, hlen, by omega, by omega, hE1.1, by omega, fun G8 rb s8 rb0 rb1 => ?_⟩
      obtain ⟨n2, hn2, at2⟩ := pick rb rb0 rb1
      have s78 := s7.trans s8
      refine ⟨Ee, _, _, _, rfl, rfl, SqL.of (s78 _ _ gE6), at2, ?_⟩
      refine rd_tup (by show 5 ≤ 100000; decide) fun t5 G9 s9 ht5 => ?_
      have s79 := s78.trans s9
      refine ⟨_, rfl, _, rfl, _, _, rfl, rfl, a, ns, _, 5, rfl, (s6.trans s79).seq hS, hlen, by omega, by omega, by decide, by decide, fun G10 rc s10 rc0 rc1 => ?_⟩
      have s710 := s79.trans s10
      obtain ⟨cc, hc0, hc2, atc⟩ : ∃ cc : Int, 0 ≤ cc ∧ cc ≤ 2 ∧ atI [V.int 0, V.int 0, V.int 1, V.int 1, V.int 2] rc = some (.int cc) := by
        have : rc = 0 ∨ rc = 1 ∨ rc = 2 ∨ rc = 3 ∨ rc = 4 := by omega
        rcases this with rfl | rfl | rfl | rfl | rfl
        · exact ⟨0, by decide, by decide, atI_nat (j := 0) rfl⟩
        · exact ⟨0, by decide, by decide, atI_nat (j := 1) rfl⟩
        · exact ⟨1, by decide, by decide, atI_nat (j := 2) rfl⟩
        · exact ⟨1, by decide, by decide, atI_nat (j := 3) rfl⟩
        · exact ⟨2, by decide, by decide, atI_nat (j := 4) rfl⟩
      refine ⟨t5, _, _, _, rfl, rfl, SqT.of (s10 _ _ ht5), atc, rd_t3 fun t G11 s11 ht => ?_⟩
      have s711 := s710.trans s11
      have gW11 := s711 _ _ gW6
      refine ⟨W, _, _, rfl, rfl, gW11, szl (by rw [hal.1]; omega), ?_⟩
      have ntW : t ≠ W := fun w => by rw [w, gW11] at ht; cases ht
      have tW : Tups G11 (upd G11 W (.lst (xs ++ [.ref t]))) := fun b ys e => by rw [upd_ne (fun w => by rw [w, gW11] at e; cases e)]; exact e
      refine ⟨_, _, xs ++ [.ref t], ws ++ [(n1, n2, cc)], rfl, (s6.trans s711).mut nWH, by rw [upd_ne nDW]; exact s711 _ _ gD6, by rw [upd_ne nEW]; exact s711 _ _ gE6, upd_same, ?_, by rw [List.length_append, hwl]; rfl, fun q hq => ?_⟩
      · exact ((hal.mono fun _ _ z => z.tups s711.tups).mono fun _ _ z => z.tups tW).snoc ⟨t, rfl, tW _ _ ht⟩
      · rcases List.mem_append.mp hq with hq | hq
        · exact hww q hq
        · rw [List.mem_singleton.mp hq]
          exact ⟨hn1, hn2, hc0, by show cc ≤ 4; omega⟩
    · rintro σ' G6 ⟨o5, o8, xs, ws, rfl, s6, gD6, gE6, gW6, hal, hwl, hww⟩
      exact ⟨_, _, xs, ws, rfl, s6, gD6, gW6, hal, ⟨by omega, by omega⟩, hww⟩
  rintro σ' G5 ⟨o5, o8, xs, ws, rfl, s5, gD5, gW5, hal, hwl, hww⟩
  refine ⟨_, rfl, _, rfl, rd_t2 fun q G6 s6 hq => ?_⟩
  exact k q D W G6 (sgs z) d ws xs (s5.trans s6) hq (s6 _ _ gD5) (s6 _ _ gW5) (hal.mono fun _ _ z => z.tups s6.tups) ⟨hG, hd, hwl.2, hww, hwl.1⟩
end
end PN
namespace PN
open PySem PySem.Spec PyProof.Rows L2 LayT
def dEg (e : Str × Str) : PyData := .tuple [.str e.1, .str e.2]
def dEs (es : List (Str × Str)) : PyData := .list (es.map dEg)
theorem shaped_es {es : List (Str × Str)} (h : ∀ e ∈ es, PyData.strOk e.1 = true ∧ PyData.strOk e.2 = true) : SeqAt.shaped (dEs es) = true := by
  have hE : ∀ e ∈ es, (dEg e).canLay0 = true := fun e he => by
    unfold dEg
    unfold PyData.canLay0 PyData.canLayAll0
    unfold PyData.canLay0 PyData.canLayAll0
    unfold PyData.canLay0 PyData.canLayAll0
    rw [(h e he).1, (h e he).2]; rfl
  have hS : (dEs es).canLay0 = true := by
    unfold dEs PyData.canLay0
    exact layAll hE
  have dS1 : (dEs es).depth ≤ 3 := by
    unfold dEs PyData.depth
    have := depAll (g := dEg) (m := 1) (ds := es) fun q _ => Nat.le_refl _
    omega
  unfold SeqAt.shaped
  rw [hS, Bool.true_and]
  exact decide_eq_true (by omega)
theorem dp_eg {K : PySem.W.Frag} {H : Hp} {x : V} {e : Str × Str} (h : EgAt H x e) : Dp K H x (dEg e) := by
  obtain ⟨a, rfl, ha⟩ := h
  exact .tup (SqT.of ha) (.cons (.str _) (.cons (.str _) .nil))
theorem inner_snoc {es : List (Str × Str)} {e : Str × Str} : inner out (es ++ [e]) = inner out es ++ if e.1 ≠ out ∧ e.2 ≠ out then [e] else [] := by
  unfold inner
  rw [List.filter_append]
  congr 1
  by_cases h : e.1 ≠ out ∧ e.2 ≠ out
  · rw [if_pos h, List.filter_cons_of_pos (by simp [Ne.symm h.1, Ne.symm h.2])]; rfl
  · rw [if_neg h, List.filter_cons_of_neg (by
      intro z
      rw [Bool.and_eq_true] at z
      simp only [Bool.not_eq_true', decide_eq_false_iff_not] at z
      exact h ⟨fun w => z.1 w.symm, fun w => z.2 w.symm⟩)]
    rfl
theorem filt_snoc {R : List (Str × Str)} {p : Str × Str → Bool} {e : Str × Str} : (R ++ [e]).filter p = R.filter p ++ if p e = true then [e] else [] := by
  rw [List.filter_append]
  congr 1
  by_cases h : p e = true
  · rw [if_pos h, List.filter_cons_of_pos h]; rfl
  · rw [if_neg h, List.filter_cons_of_neg h]; rfl
section
variable {P : Program} {w : World} {K : PySem.W.Frag} {mg : Str → Option Value} {base : Heap}
def spLRing : Sp := fun vs H Q _ => ∃ (l : Addr) (xs : List V) (es : List (Str × Str)), vs = [.ref l] ∧ H l = some (.lst xs) ∧ Al (EgAt H) xs es ∧ es.length ≤ 1000 ∧ (∀ e ∈ es, PyData.strOk e.1 = true ∧ PyData.strOk e.2 = true) ∧ ∀ H' b, Same H H' → RingB out es b → Q (.bl b) H'
abbrev nLRing : List Str := ["bare", "rest", "many", "heads", "here", "there"]
theorem scLRing : FnScope nLRing ["bare"] (defScope sLRing) := ⟨rfl, rfl, rfl, by decide +kernel, rfl, by decide +kernel, by decide +kernel⟩
theorem ok_lring {f : Addr} {fd : FuncData} (F : Fun K "_law_ring" "_law_ring" sLRing f fd) (T : Txt K mg) : FnOk P w K mg base CX0 1 f fd ["bare"] spLRing := by
  refine F.ok scLRing (fun vs H Q E h => ?_) (fun cdv A outer s H vs Q E hr h => ?_)
  · obtain ⟨l, xs, es, rfl, _⟩ := h
    rfl
  obtain ⟨l, xs, es, rfl, hl, hal, hel, hst, k⟩ := h
  have nd := scLRing.nd
  have hu := hu_of hr
  refine ⟨_, Evl.pss_cut (ps_setLc (i := 1) (own := [("here", 4), ("there", 5)]) (by rfl) nd rfl rfl (sw_true rfl rfl rfl (by decide +kernel)) (pi_list (pv 0)) (blkOk_by (N := nLRing) (sc := defScope sLRing) (by decide +kernel))
      (fun _ _ _ _ _ => pgT2 K 4 5 nd) (fun _ _ _ _ _ => pts_one (pt_cmpR (ninSK K) pe_str (ptupN (pa_cons (pv 4) (pa_cons (pv 5) pa_nil))) (by rfl))) (fun _ _ _ _ _ => ptupN (pa_cons (pv 4) (pa_cons (pv 5) pa_nil))))
    (pss_cons (ps_set (i := 2) nd rfl (.inl rfl) (pe_un un_neg pe_int))
    (pss_cons (ps_while PassesOwn.never (pt_cmpR op_ne (pv 2) (pe_callB call_len_seq (by rfl) T.len PySem.boot_len (pa_cons (pv 1) pa_nil)) (nomark _))
      (pss_cons (ps_set (i := 2) nd rfl (.inl rfl) (pe_callB call_len_seq (by rfl) T.len PySem.boot_len (pa_cons (pv 1) pa_nil)))
      (Evl.pss_cut (ps_set (i := 3) nd rfl (.inr rfl) (pe_lc (own := [("here", 4), ("there", 5)]) (by rfl) nd (pi_list (pv 1)) (blkOk_by (N := nLRing) (sc := defScope sLRing) (by decide +kernel))
          (fun _ _ _ _ _ => pgT2 K 4 5 nd) (fun _ _ _ _ _ => pts_nil) (fun _ _ _ _ _ => pv 5)))
      (pss_one (ps_setLc (i := 1) (own := [("here", 4), ("there", 5)]) (by rfl) nd rfl rfl (sw_true rfl rfl rfl (by decide +kernel)) (pi_list (pv 1)) (blkOk_by (N := nLRing) (sc := defScope sLRing) (by decide +kernel))
          (fun _ _ _ _ _ => pgT2 K 4 5 nd) (fun _ _ _ _ _ => pts_one (pt_cmpR (inSK K) (pv 4) (pv 3) (by rfl))) (fun _ _ _ _ _ => ptupN (pa_cons (pv 4) (pa_cons (pv 5) pa_nil))))))))
    (pss_one (ps_ret (pe_cmpR (neDK K hr.units) (pv 1) (plst pa_nil) (nomark _)))))), ?_⟩
  have hxl := hal.1
  refine ⟨fun σ' G => ∃ (r : Addr) (ys : List V), σ' = [some (.ref l), some (.ref r), none, none, none, none] ∧ Same H G ∧ G r = some (.lst ys) ∧ Al (EgAt G) ys (inner out es), ?_, ?_⟩
  · refine ⟨_, rfl, l, rfl, ⟨_, SqL.of hl⟩, fun c nc => lc_it (walk_list (K := K) (a := l) (xs := xs)) (fun j G => ∃ ys, Same H G ∧ G c = some (.lst ys) ∧ ys.length ≤ j ∧ Al (EgAt G) ys (inner out (es.take j)))
      ⟨[], same_upd nc, upd_same, Nat.le_refl _, Al.nil⟩ (fun j G _ hh => by obtain ⟨_, h, _⟩ := hh; exact SqL.of (h _ _ hl)) ?_ ?_⟩
    · rintro j y G G' hj ⟨ys, sG, gc, hyl, hys⟩ ⟨eG, hy⟩
      obtain rfl : G = G' := eG.symm
      have hj' : j < xs.length := hj
      obtain ⟨e, he, a, rfl, ha⟩ := hal.at hy
      have haG := sG _ _ ha
      refine ⟨a, _, rfl, SqT.of haG, rfl, _, _, rfl, _, _, rfl, rfl, rfl, ?_⟩
      refine ⟨_, rfl, _, rfl, rd_t2 fun q G1 s1 hq => ⟨q, _, rfl, .inr (SqT.of hq), rfl, rfl, _, rfl, ?_⟩⟩
      have hin : inV (.str "out") [V.str e.1, V.str e.2] = decide (out ∈ [e.1, e.2]) := inV_str (x := out) (l := [e.1, e.2])
      rw [hin]
      have hys1 := hys.mono fun _ _ z => z.tups s1.tups
      have gc1 := s1 _ _ gc
      by_cases c1 : e.1 ≠ out ∧ e.2 ≠ out
      · rw [decide_eq_false (show ¬ out ∈ [e.1, e.2] by
          intro z
          rcases List.mem_cons.mp z with z | z
          · exact c1.1 z.symm
          · exact c1.2 (List.mem_singleton.mp z).symm)]
        refine iteT ⟨_, rfl, _, rfl, rd_t2 fun q2 G2 s2 hq2 => ?_⟩
        have gc2 := s2 _ _ gc1
        have nqc : q2 ≠ c := fun z => by rw [z, gc2] at hq2; cases hq2
        have tW : Tups G2 (upd G2 c (.lst (ys ++ [.ref q2]))) := fun b zs e => by rw [upd_ne (fun w => by rw [w, gc2] at e; cases e)]; exact e
        refine ⟨ys, gc2, szl (by omega), ys ++ [.ref q2], ((sG.trans s1).trans s2).mut nc, upd_same, by rw [List.length_append]; simp; omega, ?_⟩
        rw [take_succ_at he, inner_snoc, if_pos c1]
        exact ((hys1.mono fun _ _ z => z.tups s2.tups).mono fun _ _ z => z.tups tW).snoc ⟨q2, rfl, tW _ _ hq2⟩
      · rw [decide_eq_true (show out ∈ [e.1, e.2] by
          by_cases h1 : e.1 = out
          · rw [h1]; exact List.mem_cons_self
          · by_cases h2 : e.2 = out
            · rw [h2]; exact List.mem_cons_of_mem _ List.mem_cons_self
            · exact absurd ⟨h1, h2⟩ c1)]
        refine iteF ⟨ys, sG.trans s1, gc1, by omega, ?_⟩
        rw [take_succ_at he, inner_snoc, if_neg c1, List.append_nil]
        exact hys1
    · rintro G ⟨ys, sG, gc, hyl, hys⟩
      rw [hxl, List.take_length] at hys
      exact ⟨c, ys, rfl, sG, gc, hys⟩
  rintro σ' G1 ⟨r, ys, rfl, s1, g1, al1⟩
  have hin : (inner out es).length ≤ 1000 := Nat.le_trans (List.length_filter_le _ _) hel
  refine ⟨_, rfl, ?_⟩
  refine ⟨fun m σ' G => ∃ (mv : Int) (r : Addr) (ys : List V) (R : List (Str × Str)) (rk : Str → Nat) (t : Nat) (o3 : Option V), σ' = [some (.ref l), some (.ref r), some (.int mv), o3, none, none] ∧ Same H G ∧ G r = some (.lst ys) ∧ Al (EgAt G) ys R ∧ RgI (inner out es) R rk t ∧ R.length ≤ 1000 ∧ (mv = R.length → prune R = R) ∧
      m = if mv = R.length then 0 else R.length + 1, ⟨_, -1, r, ys, _, _, _, none, rfl, s1, g1, al1, RgI.start _, hin, fun e => by omega, rfl⟩, ?_⟩
  clear g1 al1 s1
  rintro m σ' G ⟨mv, r, ys, R, rk, t, o3, rfl, sG, gr, al, hI, hR, hp, hm⟩
  have hyl := al.1
  refine ⟨_, rfl, _, rfl, r, ys, rfl, .inl (SqL.of gr), rfl, ?_⟩
  by_cases c : mv = R.length
  · refine ⟨false, ?_, iteF ?_⟩
    · rw [c, hyl]; simp
    · refine ⟨_, rfl, rd_l0 fun q G2 nq s2 hq => ?_⟩
      have al2 := al.mono fun _ _ z => z.tups s2.tups
      have hst2 : ∀ e ∈ R, PyData.strOk e.1 = true ∧ PyData.strOk e.2 = true := fun e he => hst e (mem_inner.mp (hI.sub e he)).1
      refine ⟨dEs R, .list [], .lst (SqL.of (s2 _ _ gr)) (dpall_of (g := dEg) (fun _ _ h => dp_eg h) al2), .lst (SqL.of hq) .nil, shaped_es hst2, shaped_ints [], ?_⟩
      have e1 : PyData.eqv (dEs R) (.list []) = R.isEmpty := by
        unfold dEs
        rw [eqv_empty]
        cases R <;> rfl
      rw [e1]
      exact k G2 _ (sG.trans s2) (hI.fin (hp c))
  refine ⟨true, ?_, iteT ?_⟩
  · have : ¬ (V.int mv = V.int (ys.length : Nat)) := fun z => c (by rw [← hyl]; exact V.int.inj z)
    simp [this]
  rw [if_neg c] at hm
  refine ⟨fun σ' G => ∃ (mv : Int) (r : Addr) (ys : List V) (R' : List (Str × Str)) (rk : Str → Nat) (t : Nat) (o3 : Option V), σ' = [some (.ref l), some (.ref r), some (.int mv), o3, none, none] ∧ Same H G ∧ G r = some (.lst ys) ∧ Al (EgAt G) ys R' ∧ RgI (inner out es) R' rk t ∧ R'.length ≤ 1000 ∧ (mv = R'.length → prune R' = R') ∧
      (if mv = R'.length then 0 else R'.length + 1) < m, fun σ' G' ⟨mv, r, ys, R', rk, t, o3, h1, h2, h3, h4, h5, h6, h7, h8⟩ => ⟨_, h8, mv, r, ys, R', rk, t, o3, h1, h2, h3, h4, h5, h6, h7, rfl⟩, ?_⟩
  refine ⟨_, rfl, r, ys, rfl, .inl (SqL.of gr), ?_⟩
  refine ⟨fun σ' G2 => ∃ hd : Addr, σ' = [some (.ref l), some (.ref r), some (.int (ys.length : Nat)), some (.ref hd), none, none] ∧ Same G G2 ∧ G2 hd = some (.lst ((hds R).map V.str)), ?_, ?_⟩
  · refine ⟨_, rfl, r, rfl, ⟨_, SqL.of gr⟩, fun c nc => lc_it (walk_list (K := K) (a := r) (xs := ys)) (fun j G2 => Same G G2 ∧ G2 c = some (.lst ((hds (R.take j)).map V.str))) ⟨same_upd nc, upd_same⟩ (fun j G2 _ hh => SqL.of (hh.1 _ _ gr)) ?_ ?_⟩
    · rintro j y G2 G3 hj ⟨s2, gc⟩ ⟨eG, hy⟩
      obtain rfl : G2 = G3 := eG.symm
      have hj' : j < ys.length := hj
      obtain ⟨e, he, a, rfl, ha⟩ := al.at hy
      refine ⟨a, _, rfl, SqT.of (s2 _ _ ha), rfl, _, _, rfl, _, _, rfl, rfl, rfl, ?_⟩
      refine ⟨_, rfl, _, gc, ?_, s2.mut nc, ?_⟩
      · rw [List.length_map, hds, List.length_map, List.length_take]; exact szl (by omega)
      · rw [upd_same, take_succ_at he]; unfold hds; rw [List.map_append, List.map_append]; rfl
    · rintro G2 ⟨s2, gc⟩
      rw [hyl, List.take_length] at gc
      exact ⟨c, rfl, s2, gc⟩
  rintro σ' G2 ⟨hd, rfl, s2, ghd⟩
  have al2 := al.mono fun _ _ z => z.tups s2.tups
  refine ⟨_, rfl, r, rfl, ⟨_, SqL.of (s2 _ _ gr)⟩, fun c nc => lc_it (walk_list (K := K) (a := r) (xs := ys)) (fun j G => ∃ zs, Same G2 G ∧ G c = some (.lst zs) ∧ zs.length ≤ j ∧ Al (EgAt G) zs ((R.take j).filter fun e => decide (e.1 ∈ hds R)))
    ⟨[], same_upd nc, upd_same, Nat.le_refl _, Al.nil⟩ (fun j G _ hh => by obtain ⟨_, h, _⟩ := hh; exact SqL.of (h _ _ (s2 _ _ gr))) ?_ ?_⟩
  · rintro j y G3 G4 hj ⟨zs, s3, gc, hzl, hzs⟩ ⟨eG, hy⟩
    obtain rfl : G3 = G4 := eG.symm
    have hj' : j < ys.length := hj
    obtain ⟨e, he, a, rfl, ha⟩ := al2.at hy
    refine ⟨a, _, rfl, SqT.of (s3 _ _ ha), rfl, _, _, rfl, _, _, rfl, rfl, rfl, ?_⟩
    refine ⟨_, rfl, _, rfl, hd, _, rfl, .inl (SqL.of (s3 _ _ ghd)), rfl, flat_strs, _, rfl, ?_⟩
    show if inV (.str e.1) ((hds R).map V.str) = true then _ else _
    rw [inV_str]
    by_cases c1 : e.1 ∈ hds R
    · rw [decide_eq_true c1]
      refine iteT ⟨_, rfl, _, rfl, rd_t2 fun q2 G5 s5 hq2 => ?_⟩
      have gc5 := s5 _ _ gc
      have tW : Tups G5 (upd G5 c (.lst (zs ++ [.ref q2]))) := fun b zs e => by rw [upd_ne (fun w => by rw [w, gc5] at e; cases e)]; exact e
      refine ⟨zs, gc5, szl (by omega), zs ++ [.ref q2], (s3.trans s5).mut nc, upd_same, by rw [List.length_append]; simp; omega, ?_⟩
      rw [take_succ_at he, filt_snoc, if_pos (decide_eq_true c1)]
      exact ((hzs.mono fun _ _ z => z.tups s5.tups).mono fun _ _ z => z.tups tW).snoc ⟨q2, rfl, tW _ _ hq2⟩
    · rw [decide_eq_false c1]
      refine iteF ⟨zs, s3, gc, by omega, ?_⟩
      rw [take_succ_at he, filt_snoc, if_neg (by rw [decide_eq_false c1]; decide), List.append_nil]
      exact hzs
  · rintro G3 ⟨zs, s3, gc, hzl, hzs⟩
    rw [hyl, List.take_length] at hzs
    have hpl := prune_len (R := R)
    refine ⟨_, c, zs, prune R, _, _, _, rfl, (sG.trans s2).trans s3, gc, hzs, hI.next, by omega, fun e => ?_, ?_⟩
    · rw [hyl] at e
      have e' : (prune R).length = R.length := by omega
      have := prune_full e'
      rw [this]; exact this
    · rw [hm, hyl]
      split
      · omega
      · omega
end
end PN
namespace PN
open PySem PySem.Spec PyProof.Rows L2 LayT
theorem bare_snoc {mv : Str → Int} {ws : List W3} {q : W3} : bareL mv (ws ++ [q]) = bareL mv ws ++ if rg mv q = 0 then [(q.1, q.2.1)] else [] := by
  unfold bareL
  rw [List.filter_append, List.map_append]
  congr 1
  by_cases h : rg mv q = 0
  · rw [if_pos h]; simp [h]
  · rw [if_neg h]; simp [h]
theorem bare_len {mv : Str → Int} {ws : List W3} : (bareL mv ws).length ≤ ws.length := by
  unfold bareL
  rw [List.length_map]
  exact List.length_filter_le _ _
section
variable {P : Program} {w : World} {K : PySem.W.Frag} {mg : Str → Option Value} {base : Heap}
def spLBeat : Sp := fun vs H Q _ => ∃ (a l m : Addr) (gs : List Str) (d : Str → Int) (ws : List W3) (xs : List V) (mv : Str → Int), vs = [.ref a, .ref l, .ref m] ∧ H a = some (.dK (kN gs d)) ∧ H l = some (.lst xs) ∧ Al (WAt H) xs ws ∧ MvAt H m mv ∧ PlnOk gs d ws ∧
  ∀ r H', Same H H' → LB gs (dL d) ws out mv r → Q (ov r) H'
abbrev nLBeat : List Str := ["delays", "wires", "moves", "many", "bare", "best", "turn", "late", "here", "there", "count", "wire"]
theorem scLBeat : FnScope nLBeat ["delays", "wires", "moves"] (defScope sLBeat) := ⟨rfl, rfl, rfl, by decide +kernel, rfl, by decide +kernel, by decide +kernel⟩
theorem ok_lbeat {fR f : Addr} {fdR fd : FuncData} (F : Fun K "_law_beat" "_law_beat" sLBeat f fd) (T : Txt K mg) (DR : Dfn P w K mg base "_law_ring" 1 ["bare"] spLRing fR fdR) : FnOk P w K mg base CX0 2 f fd ["delays", "wires", "moves"] spLBeat := by
  refine F.ok scLBeat (fun vs H Q E h => ?_) (fun cdv A outer s H vs Q E hr h => ?_)
  · obtain ⟨a, l, m, gs, d, ws, xs, mv, rfl, _⟩ := h
    rfl
  obtain ⟨a, l, m, gs, d, ws, xs, mv, rfl, ha, hl, hal, hm, hP, k⟩ := h
  have nd := scLBeat.nd
  have hu := hu_of hr
  refine ⟨_, Evl.pss_cut (ps_setLc (i := 3) (own := [("here", 8), ("there", 9), ("count", 10)]) (by rfl) nd rfl rfl (sw_true rfl rfl rfl (by decide +kernel)) (pi_list (pv 1)) (blkOk_by (N := nLBeat) (sc := defScope sLBeat) (by decide +kernel))
      (fun _ _ _ _ _ => pgT3 K 8 9 10 nd) (fun _ _ _ _ _ => pts_nil)
      (fun _ _ _ _ _ => pe_op op_sub (pe_op op_add (pv 10) (pe_dget2 hu (pv 2) (pv 9) pe_int ⟨by rfl, by rfl, by rfl, by rfl⟩)) (pe_dget2 hu (pv 2) (pv 8) pe_int ⟨by rfl, by rfl, by rfl, by rfl⟩)))
    (Evl.pss_cut (ps_if (PW.pt (pw_and (pt_cmpR (neDK K hr.units) (pv 3) (plst pa_nil) (nomark _)) (pw_and1 (pt_cmpR op_lt (pe_callB (cr_min rfl) (by rfl) T.min (by decide +kernel) (pa_cons (pv 3) pa_nil)) pe_int (nomark _))))) (pss_one (ps_ret pe_non)) pss_nil)
    (Evl.pss_cut (ps_setLc (i := 4) (own := [("wire", 11), ("count", 10)]) (by rfl) nd rfl rfl (sw_true rfl rfl rfl (by decide +kernel)) (pi_zip (by rfl) T.zip (pa_cons (pv 1) (pa_cons (pv 3) pa_nil))) (blkOk_by (N := nLBeat) (sc := defScope sLBeat) (by decide +kernel))
      (fun _ _ _ _ _ => pgT2 K 11 10 nd) (fun _ _ _ _ _ => pts_one (pt_cmpR op_eq (pv 10) pe_int (nomark _)))
      (fun _ _ _ _ _ => ptupN (pa_cons (pe_ix (ixT K) (pv 11) pe_int (fun _ _ => rfl)) (pa_cons (pe_ix (ixT K) (pv 11) pe_int (fun _ _ => rfl)) pa_nil))))
    (Evl.pss_cut (ps_set (i := 5) nd rfl (.inl rfl) (pe_callTy (dictPK K) (by rfl) T.dict (by decide +kernel) (pa_cons (pe_op op_cat (LiI.pe_listItems (by rfl) (pv 0) (by rfl) T.list (by decide +kernel)) (plst (pa_cons (ptup (pa_cons pe_str (pa_cons pe_int pa_nil))) pa_nil))) pa_nil)))
    (pss_cons (ps_for PassesOwn.never rfl (pi_range1 rfl T.range (pa_cons (pe_op op_add (pe_callB call_lenD (by rfl) T.len PySem.boot_len (pa_cons (pv 5) pa_nil)) pe_int) pa_nil)) (pg_name (i := 6) nd rfl (.inl rfl))
      (Evl.pss_cut (ps_set (i := 7) nd rfl (.inl rfl) (pe_callTy (dictPK K) (by rfl) T.dict (by decide +kernel) (pa_cons (LiI.pe_listItems (by rfl) (pv 5) (by rfl) T.list (by decide +kernel)) pa_nil)))
      (Evl.pss_cut (ps_for PassesOwn.never rfl (pi_list (pv 4)) (pgT2 K 8 9 nd)
        (pss_one (ps_if (pt_cmpR op_ne (pv 8) pe_str (nomark _)) (pss_one (ps_dput hu (pv 7) (pv 9) (pe_callB (call_max2 rfl) (by rfl) T.max (by decide +kernel) (pa_cons (pe_dget hu (pv 7) (pv 9) (fun _ _ => rfl))
          (pa_cons (pe_op op_add (pe_dget hu (pv 5) (pv 8) (fun _ _ => rfl)) (pe_ifExp (pt_cmpR op_eq (pv 9) pe_str (nomark _)) pe_int (pe_dget hu (pv 0) (pv 9) (fun _ _ => rfl)))) pa_nil))) rfl)) pss_nil)))
      (pss_cons (ps_if (pt_cmpR (op_eqN hr.units0) (pv 7) (pv 5) (nomark _)) (pss_one (ps_ret (pe_ifExp (pt_not (pt_val (pcl DR hr (pa_cons (pv 4) pa_nil)))) (pe_callB (cr_max rfl) (by rfl) T.max (by decide +kernel) (pa_cons (pe_listVals (by rfl) (pv 5) (by rfl) T.list (by decide +kernel)) pa_nil)) pe_non))) pss_nil)
      (pss_one (ps_set (i := 5) nd rfl (.inl rfl) (pv 7)))))))
    (pss_one (ps_ret pe_non)))))), ?_⟩
  have hxl := hal.1
  have hwl := hP.wl
  have gl := hP.g.len
  have nnd := hP.g.nd
  have hno : out ∉ gs := fun z => (List.nodup_append.mp nnd).2.2 out z out (by simp) rfl
  have nL : (gs ++ [out]).length = gs.length + 1 := by rw [List.length_append]; rfl
  have hww : ∀ q ∈ ws, q.1 ∈ gs ++ [out] ∧ q.2.1 ∈ gs ++ [out] := fun q hq => ⟨(hP.ww q hq).1, (hP.ww q hq).2.1⟩
  have hBN : ∀ e ∈ bareL mv ws, e.1 ∈ gs ++ [out] ∧ e.2 ∈ gs ++ [out] := fun e he => by
    obtain ⟨q, hq, e1, e2, _⟩ := mem_bare.mp (show (e.1, e.2) ∈ bareL mv ws from he)
    exact ⟨e1 ▸ (hww q hq).1, e2 ▸ (hww q hq).2⟩
  have hdL : kN gs d = kN gs (dL d) := kN_congr fun n hn => by
    unfold dL
    rw [if_neg (fun e : n = out => hno (e ▸ hn))]
  have hBl := bare_len (mv := mv) (ws := ws)
  -- many
  refine ⟨fun σ' G => ∃ r : Addr, σ' = [some (.ref a), some (.ref l), some (.ref m), some (.ref r), none, none, none, none, none, none, none, none] ∧ Same H G ∧ G r = some (.lst ((ws.map fun q => regF mv q).map V.int)), ?_, ?_⟩
  · obtain ⟨kvs, hmd, hmv⟩ := hm
    refine ⟨_, rfl, l, rfl, ⟨_, SqL.of hl⟩, fun c nc => lc_it (walk_list (K := K) (a := l) (xs := xs)) (fun j G => Same H G ∧ G c = some (.lst ((ws.take j).map fun q => V.int (regF mv q)))) ⟨same_upd nc, upd_same⟩ (fun j G _ hh => SqL.of (hh.1 _ _ hl)) ?_ ?_⟩
    · rintro j y G G' hj ⟨sG, gc⟩ ⟨eG, hy⟩
      obtain rfl : G = G' := eG.symm
      obtain ⟨q, hq, a', rfl, ha'⟩ := hal.at hy
      obtain ⟨o1, d1, e1⟩ := mv_get (sG _ _ hmd) hmv q.2.1
      obtain ⟨o2, d2, e2⟩ := mv_get (sG _ _ hmd) hmv q.1
      refine ⟨a', _, rfl, SqT.of (sG _ _ ha'), rfl, _, _, rfl, _, _, rfl, _, _, rfl, rfl, rfl, ?_⟩
      refine ⟨_, rfl, _, rfl, m, rfl, .inl ⟨kvs, .inl (sG _ _ hmd)⟩, _, rfl, o1, d1, ?_⟩
      rw [e1]
      refine ⟨_, _, rfl, rfl, _, rfl, m, rfl, .inl ⟨kvs, .inl (sG _ _ hmd)⟩, _, rfl, o2, d2, ?_⟩
      rw [e2]
      refine ⟨_, _, rfl, rfl, _, gc, ?_, sG.mut nc, ?_⟩
      · rw [List.length_map, List.length_take]; exact szl (by omega)
      · rw [upd_same, map_take_succ hq]; rfl
    · rintro G ⟨sG, gc⟩
      rw [hxl, List.take_length] at gc
      exact ⟨c, rfl, sG, by rw [gc, List.map_map]; rfl⟩
  rintro σ' G1 ⟨r, rfl, s1, g1⟩
  -- none below 0
  refine ⟨fun σ' G => σ' = [some (.ref a), some (.ref l), some (.ref m), some (.ref r), none, none, none, none, none, none, none, none] ∧ Same G1 G ∧ ∀ q ∈ ws, 0 ≤ rg mv q, ?_, ?_⟩
  · refine ⟨_, rfl, rd_l0 fun q G2 nq s2 hq => ⟨.list ((ws.map fun q => regF mv q).map PyData.int), .list [], .lst (SqL.of (s2 _ _ g1)) (dp_ints _), .lst (SqL.of hq) .nil, shaped_ints _, shaped_ints [], _, rfl, ?_⟩⟩
    rw [eqv_empty]
    by_cases he : ws = []
    · rw [he]
      exact iteF (iteF ⟨rfl, s2, fun q hq => by cases hq⟩)
    · have e1 : (!((ws.map fun q => regF mv q).map PyData.int).isEmpty) = true := by
        cases hh : ws with
        | nil => exact absurd hh he
        | cons a b => rfl
      rw [e1]
      refine iteT ⟨_, rfl, r, _, rfl, SqL.of (s2 _ _ g1), ?_, fun mm hmm hle => ⟨_, _, rfl, rfl, _, rfl, ?_⟩⟩
      · rw [List.length_map]; exact List.length_pos_iff.mpr he
      obtain ⟨q0, hq0, eq0⟩ := List.mem_map.mp hmm
      by_cases hneg : mm < 0
      · rw [decide_eq_true hneg]
        exact iteT (k none G2 (s1.trans s2) (LB.neg hq0 (by rw [show rg mv q0 = mm from eq0]; exact hneg)))
      · rw [decide_eq_false hneg]
        refine iteF ⟨rfl, s2, fun q hq => ?_⟩
        have := hle _ (List.mem_map.mpr ⟨q, hq, rfl⟩)
        have e2 : rg mv q = regF mv q := rfl
        omega
  rintro σ' G2 ⟨rfl, s12, hpos⟩
  have s2 := s1.trans s12
  have g2 := s12 _ _ g1
  clear s12 g1 s1
  -- bare
  refine ⟨fun σ' G => ∃ (b : Addr) (ys : List V), σ' = [some (.ref a), some (.ref l), some (.ref m), some (.ref r), some (.ref b), none, none, none, none, none, none, none] ∧ Same H G ∧ G b = some (.lst ys) ∧ Al (EgAt G) ys (bareL mv ws), ?_, ?_⟩
  · refine ⟨_, rfl, _, rfl, l, r, xs, _, rfl, SqL.of (s2 _ _ hl), SqL.of g2, fun c nc => lc_it (walk_zip (K := K) (a := l) (b := r) (xs := xs) (ys := (ws.map fun q => regF mv q).map V.int) (n := ws.length) (by rw [List.length_map, List.length_map, hxl, Nat.min_self])) (fun j G => ∃ ys, Same G2 G ∧ G c = some (.lst ys) ∧ ys.length ≤ j ∧ Al (EgAt G) ys (bareL mv (ws.take j)))
      ⟨[], same_upd nc, upd_same, Nat.le_refl _, Al.nil⟩ (fun j G _ hh => by obtain ⟨_, h, _⟩ := hh; exact ⟨SqL.of (h _ _ (s2 _ _ hl)), SqL.of (h _ _ g2)⟩) ?_ ?_⟩
    · rintro j y G G' hj ⟨ys, sG, gc, hyl, hys⟩ ⟨Tt, x1, x2, rfl, nT, rfl, e1, e2⟩
      obtain ⟨q, hq, a', rfl, ha'⟩ := hal.at e1
      have e2' : ((ws.map fun q => regF mv q).map V.int)[j]? = some (.int (regF mv q)) := by rw [List.getElem?_map, List.getElem?_map, hq]; rfl
      obtain rfl : x2 = .int (regF mv q) := Option.some.inj (e2.symm.trans e2')
      have sT := same_upd (o := HO.tup [V.ref a', V.int (regF mv q)]) nT
      have sG1 := sG.trans sT
      have gc1 := sT _ _ gc
      have hys1 := hys.mono fun _ _ z => z.tups sT.tups
      have hTt : upd G Tt (.tup [V.ref a', V.int (regF mv q)]) Tt = some (.tup [V.ref a', V.int (regF mv q)]) := upd_same
      generalize upd G Tt (.tup [V.ref a', V.int (regF mv q)]) = G3 at sG1 gc1 hys1 hTt ⊢
      refine ⟨Tt, _, rfl, SqT.of hTt, rfl, _, _, rfl, _, _, rfl, rfl, rfl, ?_⟩
      refine ⟨_, rfl, rfl, _, rfl, ?_⟩
      rw [dec_int]
      have ha3 := sG1 _ _ (s2 _ _ ha')
      by_cases c0 : regF mv q = 0
      · rw [decide_eq_true c0]
        refine iteT ⟨_, rfl, a', _, 0, _, rfl, rfl, SqT.of ha3, rfl, _, rfl, a', _, 1, _, rfl, rfl, SqT.of ha3, rfl, rd_t2 fun q2 G5 s5 hq2 => ?_⟩
        have gc5 := s5 _ _ gc1
        have tW : Tups G5 (upd G5 c (.lst (ys ++ [.ref q2]))) := fun b zs e => by rw [upd_ne (fun w => by rw [w, gc5] at e; cases e)]; exact e
        refine ⟨ys, gc5, szl (by omega), ys ++ [.ref q2], (sG1.trans s5).mut nc, upd_same, by rw [List.length_append]; simp; omega, ?_⟩
        rw [take_succ_at hq, bare_snoc, if_pos (show rg mv q = 0 from c0)]
        exact ((hys1.mono fun _ _ z => z.tups s5.tups).mono fun _ _ z => z.tups tW).snoc ⟨q2, rfl, tW _ _ hq2⟩
      · rw [decide_eq_false c0]
        refine iteF ⟨ys, sG1, gc1, by omega, ?_⟩
        rw [take_succ_at hq, bare_snoc, if_neg (show ¬ rg mv q = 0 from c0), List.append_nil]
        exact hys1
    · rintro G ⟨ys, sG, gc, hyl, hys⟩
      rw [List.take_length] at hys
      exact ⟨c, ys, rfl, s2.trans sG, gc, hys⟩
  rintro σ' G3 ⟨b, ys, rfl, s3, gb, hB⟩
  have hyl := hB.1
  clear s2 g2
  -- best
  refine ⟨fun σ' G => ∃ D : Addr, σ' = [some (.ref a), some (.ref l), some (.ref m), some (.ref r), some (.ref b), some (.ref D), none, none, none, none, none, none] ∧ Same G3 G ∧ G D = some (.dK (kN (gs ++ [out]) (dL d))), ?_, ?_⟩
  · refine ⟨_, rfl, a, _, rfl, s3 _ _ ha, fun G4 p ts s4 _ _ _ hp hpr => ?_⟩
    have s4 : Same G3 G4 := s4
    refine rd_t2 fun q G5 s5 hq => rd_l1 fun l2 G6 nl2 s6 hl2 => ?_
    have s56 := s5.trans s6
    have hts : ts.length = gs.length := by rw [Paired.length hpr, kN_len]
    refine ⟨p, l2, _, _, rfl, rfl, s56 _ _ hp, hl2, sz (by rw [List.length_map]; simp; omega), fun c nc => ?_⟩
    have s7 := same_upd (o := HO.lst (ts.map V.ref ++ [V.ref q])) nc
    have hq7 := s7 _ _ (s6 _ _ hq)
    refine ⟨c, ts ++ [q], kN (gs ++ [out]) (dL d), rfl, SqL.of (by rw [upd_same, List.map_append]; rfl), ?_, fun D nD => ⟨D, rfl, ((s4.trans s56).trans s7).trans (same_upd nD), ?_⟩⟩
    · have e1 : kN (gs ++ [out]) (dL d) = kN gs d ++ [((Sum.inr out : Key), V.int 0)] := by
        rw [hdL]; unfold kN; rw [List.map_append]; rfl
      rw [e1]
      refine Paired.snoc ?_ (SqT.of hq7)
      exact paired_imp (fun _ _ z => SqT.of (s7 _ _ (s56 _ _ z))) hpr
    · rw [upd_same]
      have := merge_kN (gs ++ [out]) [] (dL d) (by simpa using nnd)
      rw [List.nil_append] at this
      exact congrArg (fun x => some (HO.dK x)) this
  rintro σ' G4 ⟨D0, rfl, s34, gD0⟩
  have s4 := s3.trans s34
  have gb4 := s34 _ _ gb
  have hB4 := hB.mono fun _ _ z => z.tups s34.tups
  clear s34 gb hB s3
  refine ⟨_, rfl, D0, _, rfl, gD0, _, _, rfl, rfl, _, rfl, by rw [kN_len]; omega, by rw [kN_len]; omega, ?_⟩
  refine for_range (n := (((kN (gs ++ [out]) (dL d)).length : Int) + 2).toNat) (fun t σ' G => ∃ (best : Str → Int) (D : Addr) (o6 o7 o8 o9 : Option V), σ' = [some (.ref a), some (.ref l), some (.ref m), some (.ref r), some (.ref b), some (.ref D), o6, o7, o8, o9, none, none] ∧ Same H G ∧ G D = some (.dK (kN (gs ++ [out]) best)) ∧ G b = some (.lst ys) ∧ Al (EgAt G) ys (bareL mv ws) ∧
      LbI out (dL d) best (bareL mv ws) ∧ ∀ S rk, HyS out (dL d) S rk (bareL mv ws) gs (gs ++ [out]).length → Hy out (dL d) S best rk (bareL mv ws) gs (gs ++ [out]).length t)
    ⟨dL d, D0, none, none, none, none, rfl, s4, gD0, gb4, hB4, LbI.start, fun S rk h => Hy.start h (by omega)⟩ ?_ ?_
  · rintro t σ' G ht ⟨best, D, o6, o7, o8, o9, rfl, sG, gD, gb, hB, hI, hy⟩
    -- late
    refine ⟨fun σ' G5 => ∃ E : Addr, σ' = [some (.ref a), some (.ref l), some (.ref m), some (.ref r), some (.ref b), some (.ref D), some (.int (0 + (t : Int))), some (.ref E), o8, o9, none, none] ∧ Same G G5 ∧ G E = none ∧ G5 E = some (.dK (kN (gs ++ [out]) best)), ?_, ?_⟩
    · refine ⟨_, rfl, D, _, rfl, gD, fun G5 p ts s5 _ _ _ hp hpr => ?_⟩
      have s5 : Same G G5 := s5
      refine ⟨p, ts, _, rfl, SqL.of hp, paired_imp (fun _ _ z => SqT.of z) hpr, fun E nE => ⟨E, rfl, s5.trans (same_upd nE), s5.free nE, ?_⟩⟩
      rw [upd_same]
      have := merge_kN (gs ++ [out]) [] best (by simpa using nnd)
      rw [List.nil_append] at this
      exact congrArg (fun x => some (HO.dK x)) this
    rintro σ' G5 ⟨E, rfl, s5, nE, gE⟩
    have nDE : D ≠ E := fun z => by rw [z, nE] at gD; cases gD
    have nbE : b ≠ E := fun z => by rw [z, nE] at gb; cases gb
    have naE : a ≠ E := fun z => by rw [← z, sG _ _ ha] at nE; cases nE
    refine ⟨fun σ' G6 => ∃ (late : Str → Int) (o8 o9 : Option V), σ' = [some (.ref a), some (.ref l), some (.ref m), some (.ref r), some (.ref b), some (.ref D), some (.int (0 + (t : Int))), some (.ref E), o8, o9, none, none] ∧ Same G G6 ∧ G6 E = some (.dK (kN (gs ++ [out]) late)) ∧ StpOk out (dL d) best late (bareL mv ws), ?_, ?_⟩
    · refine ⟨_, rfl, b, rfl, ⟨_, SqL.of (s5 _ _ gb)⟩, for_it (walk_list (K := K) (a := b) (xs := ys)) (fun j σ' G6 => ∃ (late : Str → Int) (o8 o9 : Option V), σ' = [some (.ref a), some (.ref l), some (.ref m), some (.ref r), some (.ref b), some (.ref D), some (.int (0 + (t : Int))), some (.ref E), o8, o9, none, none] ∧ Same G G6 ∧ G6 E = some (.dK (kN (gs ++ [out]) late)) ∧ StpOk out (dL d) best late ((bareL mv ws).take j))
        ⟨best, _, _, rfl, s5, gE, StpOk.nil⟩ (fun j σ' G6 _ hh => by obtain ⟨_, _, _, _, h, _⟩ := hh; exact SqL.of (h _ _ gb)) ?_ ?_⟩
      · rintro j y σ' G6 G7 hj ⟨late, o8, o9, rfl, s6, gE6, hS⟩ ⟨eG, hy6⟩
        obtain rfl : G6 = G7 := eG.symm
        obtain ⟨e, he, q, rfl, hq⟩ := hB.at hy6
        have hem := List.mem_of_getElem? he
        obtain ⟨e1N, e2N⟩ := hBN e hem
        refine ⟨q, _, rfl, SqT.of (s6 _ _ hq), rfl, _, _, rfl, _, _, rfl, rfl, ?_⟩
        refine ⟨_, rfl, rfl, !decide (e.1 = out), congrArg V.bl ?_, ?_⟩
        · by_cases c : e.1 = out
          · simp [c]
          · have : V.str e.1 ≠ V.str out := fun z => c (V.str.inj z)
            simp [c]
        by_cases c1 : e.1 = out
        · rw [decide_eq_true c1]
          exact iteF ⟨late, _, _, rfl, s6, gE6, by rw [take_succ_at he]; exact hS.skip c1⟩
        rw [decide_eq_false c1]
        refine iteT ?_
        have gD6 := s6 _ _ gD
        have dgE : DGet G6 E (.str e.2) (some (.int (late e.2))) := by
          rw [← kN_get (wf := late) e2N]
          exact .inl ⟨_, Sum.inr e.2, .inl gE6, rfl, rfl⟩
        have dgD : DGet G6 D (.str e.1) (some (.int (best e.1))) := by
          rw [← kN_get (wf := best) e1N]
          exact .inl ⟨_, Sum.inr e.1, .inl gD6, rfl, rfl⟩
        have fin : ∀ x : Int, x = dL d e.2 → ∃ (late' : Str → Int) (o8 o9 : Option V), ([some (.ref a), some (.ref l), some (.ref m), some (.ref r), some (.ref b), some (.ref D), some (.int (0 + (t : Int))), some (.ref E), some (.str e.1), some (.str e.2), none, none] : L2.St) = [some (.ref a), some (.ref l), some (.ref m), some (.ref r), some (.ref b), some (.ref D), some (.int (0 + (t : Int))), some (.ref E), o8, o9, none, none] ∧
            Same G (upd G6 E (.dK (putK (kN (gs ++ [out]) late) (Sum.inr e.2) (.int (if best e.1 + x > late e.2 then best e.1 + x else late e.2))))) ∧ upd G6 E (.dK (putK (kN (gs ++ [out]) late) (Sum.inr e.2) (.int (if best e.1 + x > late e.2 then best e.1 + x else late e.2)))) E = some (.dK (kN (gs ++ [out]) late')) ∧
            StpOk out (dL d) best late' ((bareL mv ws).take (j + 1)) := fun x hx => by
          subst hx
          refine ⟨fun n => if n = e.2 then (if best e.1 + dL d e.2 > late e.2 then best e.1 + dL d e.2 else late e.2) else late n, _, _, rfl, s6.mut nE, by rw [upd_same, kN_put e2N], ?_⟩
          rw [take_succ_at he]
          refine hS.snoc c1 ?_ ?_ ?_
          · split <;> omega
          · split <;> omega
          · split
            · exact .inr rfl
            · exact .inl rfl
        refine ⟨_, rfl, _, rfl, E, _, rfl, dgE, _, rfl, _, rfl, D, _, rfl, dgD, _, rfl, rfl, _, rfl, ?_⟩
        rw [dec_str]
        have hsz : (kN (gs ++ [out]) late).length < sizeLine := by rw [kN_len]; exact szl (by omega)
        by_cases c2 : e.2 = out
        · rw [decide_eq_true c2]
          exact iteT ⟨_, _, rfl, rfl, _, _, rfl, _, rfl, _, rfl, E, _, rfl, DPut.k (k := Sum.inr e.2) gE6 hsz, fin 0 (by unfold dL; rw [if_pos c2])⟩
        · rw [decide_eq_false c2]
          have e2g : e.2 ∈ gs := by
            rcases List.mem_append.mp e2N with z | z
            · exact z
            · exact absurd (List.mem_singleton.mp z) c2
          have dga : DGet G6 a (.str e.2) (some (.int (d e.2))) := by
            rw [← kN_get (wf := d) e2g]
            exact .inl ⟨_, Sum.inr e.2, .inl (s6 _ _ (sG _ _ ha)), rfl, rfl⟩
          exact iteF ⟨_, rfl, _, rfl, a, _, rfl, dga, _, _, rfl, rfl, _, _, rfl, _, rfl, _, rfl, E, _, rfl, DPut.k (k := Sum.inr e.2) gE6 hsz, fin (d e.2) (by unfold dL; rw [if_neg c2])⟩
      · rintro σ' G6 ⟨late, o8, o9, rfl, s6, gE6, hS⟩
        rw [hyl, List.take_length] at hS
        exact ⟨late, _, _, rfl, s6, gE6, hS⟩
    rintro σ' G6 ⟨late, o8', o9', rfl, s6, gE6, hS⟩
    have gD6 := s6 _ _ gD
    have sG6 := sG.trans s6
    refine ⟨_, rfl, _, rfl, E, D, _, _, rfl, rfl, gE6, gD6, by rw [kN_len, kN_len], fun p hp => ?_, _, rfl, ?_⟩
    · obtain ⟨n, hn, rfl⟩ := List.mem_map.mp hp
      exact ⟨_, _, rfl, kN_get hn⟩
    have eb : (false != dEq (kN (gs ++ [out]) late) (kN (gs ++ [out]) best)) = dEq (kN (gs ++ [out]) late) (kN (gs ++ [out]) best) := by cases dEq (kN (gs ++ [out]) late) (kN (gs ++ [out]) best) <;> rfl
    rw [eb]
    cases hq : dEq (kN (gs ++ [out]) late) (kN (gs ++ [out]) best) with
    | true =>
      refine iteT ?_
      have hfix := (dEq_iff nnd).mp hq
      have hB6 := hB.mono fun _ _ z => z.tups s6.tups
      refine ⟨_, rfl, b, ys, bareL mv ws, rfl, s6 _ _ gb, hB6, by omega, fun e he => ⟨(hP.g.str _ (hBN e he).1).1, (hP.g.str _ (hBN e he).2).1⟩, fun G7 rb s7 hrb => ⟨_, rfl, ?_⟩⟩
      have hup : ∀ e ∈ bareL mv ws, e.1 ≠ out → best e.1 + dL d e.2 ≤ best e.2 := fun e he hne => by
        have h1 := hS.up e he hne
        have h2 := hfix e.2 (hBN e he).2
        omega
      have d0 : dL d out = 0 := by unfold dL; rw [if_pos rfl]
      have sG7 := sG6.trans s7
      cases rb with
      | true =>
        exact iteF (k none G7 sG7 (LB.ring hrb))
      | false =>
        refine iteT ⟨_, rfl, D, _, rfl, s7 _ _ gD6, fun pl npl => ?_⟩
        rw [kN_vals]
        refine ⟨pl, (gs ++ [out]).map best, rfl, SqL.of upd_same, ?_, fun mm hmm hle => ?_⟩
        · rw [List.length_map, nL]; omega
        · obtain ⟨n, hn, e⟩ := List.mem_map.mp hmm
          exact k (some mm) _ (sG7.trans (same_upd npl)) (LB.fix hno hww hpos d0 hI hup hrb (fun n hn => hle _ (List.mem_map.mpr ⟨n, hn, rfl⟩)) ⟨n, hn, e⟩)
    | false =>
      refine iteF ?_
      refine ⟨_, rfl, late, E, _, _, _, _, rfl, sG6, gE6, s6 _ _ gb, hB.mono fun _ _ z => z.tups s6.tups, hI.next hS, fun S rk h => (hy S rk h).next h hI hS fun hh => ?_⟩
      have : dEq (kN (gs ++ [out]) late) (kN (gs ++ [out]) best) = true := (dEq_iff nnd).mpr fun n hn => by
        rcases List.mem_append.mp hn with z | z
        · exact hh.1 n z
        · rw [List.mem_singleton.mp z]; exact hh.2
      rw [this] at hq
      cases hq
  · rintro σ' G ⟨best, D, o6, o7, o8, o9, rfl, sG, gD, gb, hB, hI, hy⟩
    refine k none G sG fun ks hk r' hb => ?_
    cases r' with
    | none => rfl
    | some mm =>
      exfalso
      obtain ⟨_, S, rank, h2, h3, _⟩ := hb
      have := (hy S _ (hyS_of hk hno hww h2 h3)).t
      rw [kN_len] at this
      omega
end
end PN
namespace PN
open PySem PySem.Spec PyProof.Rows L2 LayT
/-! ### the delays of the law as data -/
/-! ### perms -/
/-! ### one order -/
def Un : List Str := ["a", "b", "c", "d", "e", "out"]
theorem un_lt : ∀ x ∈ Un, ∀ y ∈ Un, ltCps x.cps.toList y.cps.toList = decide (Un.idxOf x < Un.idxOf y) := by decide +kernel
theorem un_inj : ∀ x ∈ Un, ∀ y ∈ Un, Un.idxOf x = Un.idxOf y → x = y := by decide +kernel
theorem GsOk.un {gs : List Str} (h : GsOk gs) : ∀ n ∈ gs ++ [out], n ∈ Un := gs_all (Pr := fun gs => ∀ n ∈ gs ++ [out], n ∈ Un) (by decide +kernel) (by decide +kernel) (by decide +kernel) (by decide +kernel) h
theorem rising_pw : ∀ (ys : List Str) (p : Str), p ∈ Un → (∀ y ∈ ys, y ∈ Un) → risingS p ys = true → (p :: ys).Pairwise fun a b => Un.idxOf a ≤ Un.idxOf b
  | [], p, _, _, _ => List.pairwise_singleton _ _
  | y :: ys, p, hp, hy, h => by
    have h' : (!ltCps y.cps.toList p.cps.toList && risingS y ys) = true := h
    rw [Bool.and_eq_true, un_lt y (hy y List.mem_cons_self) p hp] at h'
    have h1 : Un.idxOf p ≤ Un.idxOf y := by
      have := h'.1
      simp at this
      exact this
    have ih := rising_pw ys y (hy y List.mem_cons_self) (fun z hz => hy z (List.mem_cons_of_mem _ hz)) h'.2
    refine List.pairwise_cons.mpr ⟨fun z hz => ?_, ih⟩
    rcases List.mem_cons.mp hz with rfl | hz
    · exact h1
    · exact Nat.le_trans h1 ((List.pairwise_cons.mp ih).1 z hz)
theorem sorted_pw {ys : List Str} (hy : ∀ y ∈ ys, y ∈ Un) (h : sortedS ys = true) : ys.Pairwise fun a b => Un.idxOf a ≤ Un.idxOf b := by
  cases ys with
  | nil => exact List.Pairwise.nil
  | cons y ys => exact rising_pw ys y (hy y List.mem_cons_self) (fun z hz => hy z (List.mem_cons_of_mem _ hz)) h
theorem sort_uniq {ys zs N : List Str} (hN : ∀ n ∈ N, n ∈ Un) (p1 : ys.Perm N) (s1 : sortedS ys = true) (p2 : zs.Perm N) (s2 : sortedS zs = true) : ys = zs := by
  have h1 : ∀ y ∈ ys, y ∈ Un := fun y hy => hN y (p1.mem_iff.mp hy)
  have h2 : ∀ y ∈ zs, y ∈ Un := fun y hy => hN y (p2.mem_iff.mp hy)
  exact List.Perm.eq_of_pairwise (fun a b ha hb hab hba => un_inj a (h1 a ha) b (h2 b hb) (Nat.le_antisymm hab hba)) (sorted_pw h1 s1) (sorted_pw h2 s2) (p1.trans p2.symm)
end PN
/-! Every plan has a beat under every moves -/
namespace PN
section
variable {α : Type} [DecidableEq α]
theorem ringb_ex {out : α} {es : List (E2 α)} : ∃ b, RingB out es b := by
  have : ∀ k (R : List (E2 α)) (rk : α → Nat) (t : Nat), R.length ≤ k → RgI (inner out es) R rk t → ∃ b, RingB out es b := by
    intro k
    induction k with
    | zero =>
      intro R rk t hl h
      have : R = [] := List.eq_nil_of_length_eq_zero (by omega)
      subst this
      exact ⟨_, h.fin rfl⟩
    | succ k ih =>
      intro R rk t hl h
      by_cases c : (prune R).length = R.length
      · exact ⟨_, h.fin (prune_full c)⟩
      · have := prune_len (R := R)
        exact ih (prune R) _ _ (by omega) h.next
  exact this _ _ _ _ (Nat.le_refl _) (RgI.start _)
theorem max_ex (S : α → Int) : ∀ l : List α, ∃ m : Int, 0 ≤ m ∧ (∀ b ∈ l, S b ≤ m) ∧ (m = 0 ∨ ∃ b ∈ l, m = S b)
  | [] => ⟨0, Int.le_refl _, fun b h => (nomatch h), .inl rfl⟩
  | a :: l => by
    obtain ⟨m, h0, h1, h2⟩ := max_ex S l
    by_cases c : S a ≤ m
    · refine ⟨m, h0, fun b hb => ?_, ?_⟩
      · rcases List.mem_cons.mp hb with rfl | hb
        · exact c
        · exact h1 b hb
      · rcases h2 with h2 | ⟨b, hb, e⟩
        · exact .inl h2
        · exact .inr ⟨b, List.mem_cons_of_mem _ hb, e⟩
    · refine ⟨S a, by omega, fun b hb => ?_, .inr ⟨a, List.mem_cons_self, rfl⟩⟩
      rcases List.mem_cons.mp hb with rfl | hb
      · exact Int.le_refl _
      · have := h1 b hb; omega
variable {keys : List α} {d : α → Int} {ws : List (α × α × Int)} {out : α} {mv : α → Int}
/-- gates ahead of a gate, over wires without registers -/
def prs (ws : List (α × α × Int)) (out : α) (mv : α → Int) (n : α) : List α := (ws.filter fun q => decide (q.2.1 = n ∧ rg mv q = 0 ∧ q.1 ≠ out ∧ n ≠ out)).map fun q => q.1
theorem mem_prs {b n : α} : b ∈ prs ws out mv n ↔ Zr ws out mv b n := by
  unfold prs Zr
  rw [List.mem_map]
  constructor
  · rintro ⟨q, hq, rfl⟩
    obtain ⟨h1, h2⟩ := List.mem_filter.mp hq
    obtain ⟨e1, e2, e3, e4⟩ := of_decide_eq_true h2
    exact ⟨q, h1, rfl, e1, e2, e3, e4⟩
  · rintro ⟨q, h1, rfl, e1, e2, e3, e4⟩
    exact ⟨q, List.mem_filter.mpr ⟨h1, decide_eq_true ⟨e1, e2, e3, e4⟩⟩, rfl⟩
theorem sums_ex {rank : α → Nat} (hr : ∀ b n, Zr ws out mv b n → rank b < rank n) : ∀ k, ∃ S : α → Int, ∀ n, rank n < k → LongAt d (Zr ws out mv) S n
  | 0 => ⟨fun _ => 0, fun n h => by omega⟩
  | k + 1 => by
    obtain ⟨S, hS⟩ := sums_ex hr k
    have ex := fun n => max_ex S (prs ws out mv n)
    refine ⟨fun n => if rank n < k then S n else d n + Classical.choose (ex n), fun n hn => ?_⟩
    have hb : ∀ b, Zr ws out mv b n → (if rank b < k then S b else d b + Classical.choose (ex b)) = S b := fun b z => by
      have := hr b n z
      rw [if_pos (by omega)]
    by_cases c : rank n < k
    · have h := hS n c
      refine ⟨fun b z => ?_, ?_, ?_⟩
      · rw [hb b z, if_pos c]; exact h.up b z
      · rw [if_pos c]; exact h.low
      · rw [if_pos c]
        rcases h.eq with e | ⟨b, z, e⟩
        · exact .inl e
        · exact .inr ⟨b, z, by rw [hb b z]; exact e⟩
    · obtain ⟨h0, h1, h2⟩ := Classical.choose_spec (ex n)
      refine ⟨fun b z => ?_, ?_, ?_⟩
      · rw [hb b z, if_neg c]
        have := h1 b (mem_prs.mpr z)
        omega
      · rw [if_neg c]; omega
      · rw [if_neg c]
        rcases h2 with e | ⟨b, hbm, e⟩
        · exact .inl (by omega)
        · have z := mem_prs.mp hbm
          exact .inr ⟨b, z, by rw [hb b z, e]; omega⟩
theorem beat_ex (ho : out ∈ keys) : ∃ r, BeatIs keys d ws out mv r := by
  by_cases c : ∃ q ∈ ws, rg mv q < 0
  · exact ⟨none, .inl c⟩
  have hp : ∀ q ∈ ws, 0 ≤ rg mv q := fun q hq => by
    have : ¬ rg mv q < 0 := fun h => c ⟨q, hq, h⟩
    omega
  by_cases cr : Ring (Zr ws out mv)
  · exact ⟨none, .inr cr⟩
  have hrk : ∃ rank : α → Nat, ∀ b n, Zr ws out mv b n → rank b < rank n := by
    obtain ⟨b, hb⟩ := ringb_ex (out := out) (es := (ws.filter fun q => decide (rg mv q = 0)).map fun q => (q.1, q.2.1))
    have hm : ∀ x y, Zr ws out mv x y → (x, y) ∈ (ws.filter fun q => decide (rg mv q = 0)).map fun q => (q.1, q.2.1) := fun x y ⟨q, hq, e1, e2, e3, _⟩ => List.mem_map.mpr ⟨q, List.mem_filter.mpr ⟨hq, decide_eq_true e3⟩, by rw [e1, e2]⟩
    cases b with
    | true =>
      exfalso
      obtain ⟨R, hne, h1, h2⟩ := hb.1 rfl
      refine cr ⟨R.map (·.2), fun z => hne (List.map_eq_nil_iff.mp z), fun n hn => ?_⟩
      obtain ⟨e, he, rfl⟩ := List.mem_map.mp hn
      obtain ⟨e', he', ee⟩ := h2 e he
      obtain ⟨g1, g2, g3⟩ := h1 e he
      obtain ⟨q, hq, eq⟩ := List.mem_map.mp g1
      obtain ⟨hq1, hq2⟩ := List.mem_filter.mp hq
      have hq2 := of_decide_eq_true hq2
      subst eq
      exact ⟨q.1, ee ▸ List.mem_map.mpr ⟨e', he', rfl⟩, q, hq1, rfl, rfl, hq2, g2, g3⟩
    | false =>
      obtain ⟨rank, h⟩ := hb.2 rfl
      refine ⟨rank, fun x y z => h (x, y) (hm x y z) ?_ ?_⟩
      · obtain ⟨_, _, _, _, _, e, _⟩ := z; exact e
      · obtain ⟨_, _, _, _, _, _, e⟩ := z; exact e
  obtain ⟨rank, hr⟩ := hrk
  obtain ⟨B, hB⟩ : ∃ B : Nat, ∀ n ∈ keys, rank n < B := by
    obtain ⟨M, hM⟩ := max_of (l := keys) (fun n => (rank n : Int))
    refine ⟨M.toNat + 1, fun n hn => ?_⟩
    have := hM n hn
    omega
  obtain ⟨S, hS⟩ := sums_ex (d := d) hr B
  obtain ⟨m, hm1, hm2⟩ : ∃ m : Int, (∀ n ∈ keys, S n ≤ m) ∧ ∃ n ∈ keys, S n = m := by
    have : ∀ l : List α, l ≠ [] → ∃ m : Int, (∀ n ∈ l, S n ≤ m) ∧ ∃ n ∈ l, S n = m := by
      intro l
      induction l with
      | nil => intro h; exact absurd rfl h
      | cons a l ih =>
        intro _
        by_cases e : l = []
        · subst e; exact ⟨S a, fun n hn => by rw [List.mem_singleton.mp hn]; exact Int.le_refl _, a, by simp, rfl⟩
        · obtain ⟨m, h1, n0, hn0, e0⟩ := ih e
          by_cases c : S a ≤ m
          · refine ⟨m, fun n hn => ?_, n0, List.mem_cons_of_mem _ hn0, e0⟩
            rcases List.mem_cons.mp hn with rfl | hn
            · exact c
            · exact h1 n hn
          · refine ⟨S a, fun n hn => ?_, a, List.mem_cons_self, rfl⟩
            rcases List.mem_cons.mp hn with rfl | hn
            · exact Int.le_refl _
            · have := h1 n hn; omega
    exact this keys (fun e => by rw [e] at ho; cases ho)
  exact ⟨some m, hp, S, rank, fun n hn => hS n (hB n hn), hr, hm1, hm2⟩
end
end PN
namespace PN
open PySem PySem.Spec PyProof.Rows L2 LayT
/-! ### the law's rings -/
def lN (i : Nat) : Str := (sgs "abcdef").getD i ""
theorem lN_txt : ∀ i, i < 6 → ∃ c, ("abcdef" : Str).cps.toList[i]? = some c ∧ (⟨#[c]⟩ : Str) = lN i := by
  intro i h
  have : i = 0 ∨ i = 1 ∨ i = 2 ∨ i = 3 ∨ i = 4 ∨ i = 5 := by omega
  rcases this with rfl | rfl | rfl | rfl | rfl | rfl <;> exact ⟨_, rfl, by decide +kernel⟩
def ls6 (N : Nat) : List Str := (List.range N).map lN
theorem ls_ok {N : Nat} (h2 : 2 ≤ N) (h5 : N ≤ 5) : GsOk (ls6 N) := by
  have : N = 2 ∨ N = 3 ∨ N = 4 ∨ N = 5 := by omega
  rcases this with rfl | rfl | rfl | rfl
  · exact ⟨"ab", by decide +kernel, by decide +kernel⟩
  · exact ⟨"abc", by decide +kernel, by decide +kernel⟩
  · exact ⟨"abcd", by decide +kernel, by decide +kernel⟩
  · exact ⟨"abcde", by decide +kernel, by decide +kernel⟩
theorem lN_inj : ∀ i, i < 6 → ∀ j, j < 6 → lN i = lN j → i = j := by decide +kernel
def lrW (N : Nat) (R : Int) (i : Nat) : W3 := (lN i, lN ((i + 1) % N), if i = N - 1 then R else 0)
theorem ls_mem {N i : Nat} (h : i < N) : lN i ∈ ls6 N := by
  unfold ls6
  exact List.mem_map.mpr ⟨i, List.mem_range.mpr h, rfl⟩
theorem lring_pln {N : Nat} {R : Int} {e : Nat → Int} (h2 : 2 ≤ N) (h5 : N ≤ 5) (hR : 1 ≤ R ∧ R ≤ 4) (he : ∀ i, i < N → 0 ≤ e i ∧ e i ≤ 5) : PlnOk (ls6 N) (lift lN N e) ((List.range N).map (lrW N R)) := by
  refine ⟨ls_ok h2 h5, fun n hn => ?_, by rw [rng_len]; omega, fun q hq => ?_, by rw [rng_len]; omega⟩
  · unfold ls6 at hn
    obtain ⟨i, hi, rfl⟩ := List.mem_map.mp hn
    have hi := List.mem_range.mp hi
    rw [lift_at (fun i j hi hj e => lN_inj i (by omega) j (by omega) e) hi]
    exact he i hi
  · obtain ⟨i, hi, rfl⟩ := List.mem_map.mp hq
    have hi := List.mem_range.mp hi
    refine ⟨List.mem_append_left _ (ls_mem hi), List.mem_append_left _ (ls_mem (Nat.mod_lt _ (by omega))), ?_, ?_⟩ <;> (unfold lrW; dsimp only; split <;> omega)
theorem lring_rank {N : Nat} {R : Int} (h5 : N ≤ 5) (hR : 1 ≤ R) : ∀ b n, Zr ((List.range N).map (lrW N R)) out (fun _ => 0) b n → (lift lN N (fun i => (i : Int)) b).toNat < (lift lN N (fun i => (i : Int)) n).toNat := by
  rintro b n ⟨q, hq, e1, e2, e3, _⟩
  have iG : Inj lN N := fun i j hi hj e => lN_inj i (by omega) j (by omega) e
  obtain ⟨i, hi, rfl⟩ := List.mem_map.mp hq
  have hi := List.mem_range.mp hi
  rw [rg0] at e3
  have e3 : (if i = N - 1 then R else 0) = 0 := e3
  have c : i ≠ N - 1 := fun c => by rw [if_pos c] at e3; omega
  have e1 : lN i = b := e1
  have e2 : lN ((i + 1) % N) = n := e2
  rw [Nat.mod_eq_of_lt (by omega)] at e2
  rw [← e1, ← e2, lift_at iG hi, lift_at iG (by omega)]; omega
theorem lift_rows {N : Nat} {e : Nat → Int} (h5 : N ≤ 5) : (List.range N).map (fun i => (lN i, V.int (e i))) = (ls6 N).map fun n => (n, V.int (lift lN N e n)) := by
  unfold ls6
  rw [List.map_map]
  refine List.map_congr_left fun i hi => ?_
  have hi := List.mem_range.mp hi
  show _ = (lN i, V.int (lift lN N e (lN i)))
  rw [lift_at (fun i j hi hj e => lN_inj i (by omega) j (by omega) e) hi]
/-- what a plan of the law is made of -/
theorem PlnOk.pc {gs : List Str} {d : Str → Int} {ws : List W3} (h : PlnOk gs d ws) : PC gs d ws := by
  have gl := h.g.len
  have hw := h.wl
  exact ⟨h.g.nd, by omega, by omega, h.g.wrd, fun n hn => (h.g.str n (List.mem_append_left _ hn)).2, fun n hn => by have := h.dd n hn; omega, by omega, fun q hq => by
    obtain ⟨a, b, c, d⟩ := h.ww q hq
    exact ⟨a, b, c, by omega⟩⟩
theorem LB.is {gs : List Str} {d : Str → Int} {ws : List W3} {mv : Str → Int} {r : Option Int} (h : LB gs d ws out mv r) : BeatIs (gs ++ [out]) d ws out mv r := by
  obtain ⟨r0, h0⟩ := beat_ex (keys := gs ++ [out]) (d := d) (ws := ws) (out := out) (mv := mv) (by simp)
  have := h _ (fun _ => Iff.rfl) r0 h0
  subst this
  exact h0
theorem LB.nr {gs : List Str} {d : Str → Int} {ws : List W3} {m : Int} (h : LB gs (dL d) ws out (fun _ => 0) (some m)) : NR gs d ws := fun ks hpk hb => by
  have := h ks (fun n => hpk.mem_iff) none (hb.congr fun n hn => dO_dl (hpk.mem_iff.mp hn))
  cases this
/-! ### rows of moves -/
def RowA (G : Hp) (x : V) (ks : List Str) : Prop := ∃ (a : Addr) (f : Str → Int), x = .ref a ∧ G a = some (.dK (kN ks f))
theorem RowA.same {G G' : Hp} {x : V} {ks : List Str} (h : RowA G x ks) (s : Same G G') : RowA G' x ks := let ⟨a, f, e, h1⟩ := h; ⟨a, f, e, s _ _ h1⟩
theorem kP_row {ks : List Str} {f : Str → Int} {n : Str} {i : Int} (h : n ∉ ks) : kP ((ks.map fun m => (m, V.int (f m))) ++ [(n, V.int i)]) = kN (ks ++ [n]) fun x => if x = n then i else f x := by
  unfold kP kN
  rw [List.map_append, List.map_append, List.map_map]
  congr 1
  · refine List.map_congr_left fun m hm => ?_
    show ((Sum.inr m : Key), V.int (f m)) = (Sum.inr m, V.int (if m = n then i else f m))
    rw [if_neg (fun e : m = n => h (e ▸ hm))]
  · show [((Sum.inr n : Key), V.int i)] = [(Sum.inr n, V.int (if n = n then i else f n))]
    rw [if_pos rfl]
theorem names_row {ks : List Str} {f : Str → Int} {n : Str} {i : Int} : ((ks.map fun m => (m, V.int (f m))) ++ [(n, V.int i)]).map (·.1) = ks ++ [n] := by
  rw [List.map_append, List.map_map]
  have : (ks.map ((fun x : Str × V => x.1) ∘ fun m => (m, V.int (f m)))) = ks := List.map_id' ks
  rw [this]; rfl
/-! ### spoilt evidence -/
theorem Apart.weak : ∀ {cs : List Cut1} {l l' n : Nat}, l' ≤ l → Apart l cs n → Apart l' cs n
  | [], l, l', n, h, a => by show l' ≤ n; have : l ≤ n := a; omega
  | .inl _ :: _, _, _, _, _, a => a.elim
  | .inr (a, b) :: r, l, l', n, h, x => ⟨by have := x.1; omega, x.2.1, x.2.2.1, x.2.2.2⟩
theorem EvW.tail {t : PL} {b : Int} {wk : List Nat} {cs : List Cut1} {qs : List W3} {u : Str} (h : EvW t b wk cs qs u) : EvW t b wk (cs.drop 1) qs u := by
  refine ⟨h.walk, ?_, fun c hc => h.seg c (List.mem_of_mem_drop hc), h.wl, ?_⟩
  · cases cs with
    | nil => exact h.apart
    | cons c r =>
      cases c with
      | inl x => exact (h.seg _ List.mem_cons_self).elim
      | inr ab =>
        obtain ⟨a, e⟩ := ab
        obtain ⟨x1, x2, x3, x4⟩ := h.apart
        exact x4.weak (Nat.zero_le _)
  · have := h.cl
    rw [List.length_drop]; omega
theorem sh_more {t : PL} {b : Int} {f : Str → Int} {wk : List Nat} {cs : List Cut1} (rt : Rt t.ks t.d t.ws out) (hb : BestT t b f) : ShR t (b + 1) f wk cs false := by
  refine .inl ⟨fun m hm e => ?_, rfl⟩
  have := hb.beat rt (hm.regs (mvK_rg rt.ends))
  rw [this] at e
  have := Option.some.inj e
  omega
theorem sh_none {t : PL} {b : Int} {f : Str → Int} (rt : Rt t.ks t.d t.ws out) (hb : BestT t b f) (h : b ≠ 0) : ShR t b f [] [] false :=
  .inr ⟨fun m hm => hb.beat rt (hm.regs (mvK_rg rt.ends)), .inl ⟨rfl, .inr ⟨h, .inr ⟨rfl, rfl⟩⟩⟩⟩
theorem sh_tail {t : PL} {b : Int} {f : Str → Int} {wk : List Nat} {cs : List Cut1} {qs : List W3} {u : Str} (rt : Rt t.ks t.d t.ws out) (hb : BestT t b f) (ev : EvW t b wk cs qs u) : ShR t b f wk (cs.drop 1) (decide ((qs.map fun q => q.2.2).sum < ((cs.drop 1).length : Int))) :=
  .inr ⟨fun m hm => hb.beat rt (hm.regs (mvK_rg rt.ends)), .inr ⟨qs, u, ev.tail, rfl⟩⟩
theorem take_not {l : List Str} {i : Nat} {n : Str} (h : l.Nodup) (hn : l[i]? = some n) : n ∉ l.take i := fun hm => by
  obtain ⟨j, hj, e⟩ := List.mem_iff_getElem.mp hm
  rw [List.length_take] at hj
  have h1 : l[j]? = some n := by
    rw [List.getElem?_eq_getElem (by omega), ← e, List.getElem_take]
  have h2 := (List.getElem?_eq_some_iff.mp hn).1
  have := (List.getElem?_inj (by omega) h).mp (h1.trans hn.symm)
  omega
theorem cut_takeA {xs : List V} {n : Nat} : cutV xs none (some (n : Int)) = xs.take n := by
  unfold cutV
  rw [HT.sIx_nat, HT.sIx_none, List.drop_zero, Nat.sub_zero]
  by_cases h : n ≤ xs.length
  · rw [Nat.min_eq_left h]
  · rw [Nat.min_eq_right (by omega), List.take_of_length_le (Nat.le_refl _), List.take_of_length_le (by omega)]
theorem mk_fast {CF : Addr} {G : Hp} {Q : VK} {b : Int} {mf wf cf x dy : Addr} {ks : List Str} {f : Str → Int} {wk : List Nat} {xf : List V} {cs : List Cut1} (hm : G mf = some (.dK (kN ks f))) (hn : ks.Nodup) (hl : ks.length ≤ 1000) (hw : G wf = some (.lst (iV wk))) (hc : G cf = some (.lst xf)) (hx : Al (CutAt G) xf cs)
    (nx : G x = none) (ny : G dy = none) (k : ∀ G', Same G G' → FsAt CF G' x b ks f wk cs → Q .non G') : spFI CF [.ref x, .int b, .ref mf, .ref wf, .ref cf] (upd (upd G dy (.own x)) x (.ins CF dy [])) Q E0 := by
  have s0 := same_mk (Ck := CF) nx ny
  exact ⟨x, dy, b, mf, wf, cf, ks, f, wk, xf, cs, rfl, upd_same, s0 _ _ hm, hn, hl, s0 _ _ hw, s0 _ _ hc, hx.mono fun _ _ z => z.tups s0.tups, fun G' bt hfs => k G' (fun q o e => bt q o (ne_of_none e nx) (s0 q o e)) hfs⟩
theorem iV_ints {wk : List Nat} : iV wk = (wk.map fun i => ((i : Nat) : Int)).map V.int := by unfold iV; rw [List.map_map]; rfl
theorem cut_one_drop {xs : List V} (h : 1 ≤ xs.length) : cutV xs (some 1) none = xs.drop 1 := cut_dropN (n := 1) h
end PN
namespace PN
open PySem PySem.Spec PyProof.Rows L2 LayT
section
variable {P : Program} {w : World} {K : PySem.W.Frag} {mg : Str → Option Value} {base : Heap} {C CB CN CF : Addr}
def spLaw (K : PySem.W.Frag) : Sp := fun vs H Q _ => ∃ (a : Addr) (ns : List Int), vs = [.ref a] ∧ SqL K H a (ns.map V.int) ∧ ns.length ≤ 63 ∧ ∀ H', Q (.bl true) H'
abbrev nLaw : List Str := ["script", "many", "registers", "delays", "wires", "plan", "found", "names", "rows", "name", "late", "row", "beat", "at", "number"]
theorem scLaw : FnScope nLaw ["script"] (defScope sLaw) := ⟨rfl, rfl, rfl, by decide +kernel, rfl, by decide +kernel, by decide +kernel⟩
set_option maxHeartbeats 1000000 in
theorem ok_law {f fD fL fB fR fI fM fS fW fF : Addr} {fd fdD fdL fdB fdR fdI fdM fdS fdW fdF : FuncData} (F : Fun K "law" "law" sLaw f fd) (T : Txt K mg) (TP : TxtP K mg C) (TF : TxtF K mg CF) (DD : Dfn P w K mg base "_law_draw" 1 ["script", "at", "many"] (spDraw K) fD fdD)
    (DL : Dfn P w K mg base "_law_plan" 2 ["script", "at"] (spLPlan K) fL fdL) (DB : Dfn P w K mg base "_law_beat" 2 ["delays", "wires", "moves"] spLBeat fB fdB) (DR : Dfn P w K mg base "_law_ruled" 1 ["plan", "found"] (spRuled C CF) fR fdR)
    (MP : MkX P w K mg base C "Plan" ["self", "delays", "wires"] 4 (spInit C CB) fI fdI) (MF : MkC P w K mg base CF "Fastest" ["self", "beat", "moves", "walk", "cuts"] 1 (spFI CF) fM fdM) (DS : Dfm P w K mg base CF "shows" 3 ["self", "plan"] (spShows C CF) fS fdS)
    (DW : DfX P w K mg base "with_beat" 4 ["plan", "beat"] (spWith C CN) fW fdW) (DF : Dfn P w K mg base "fastest" 4 ["plan"] (spFastest C CF) fF fdF) (TN : ErrC K mg "NoPlacing" CN) (e2 : PySem.W.exmOne K (.ref CN) (.ref CN) = some true) :
    FnOk P w K mg base CX0 6 f fd ["script"] (spLaw K) := by
  refine F.ok scLaw (fun vs H Q E h => ?_) (fun cdv A outer s H vs Q E hr h => ?_)
  · obtain ⟨a, ns, rfl, _⟩ := h
    rfl
  obtain ⟨a, ns, rfl, hS, hlen, k⟩ := h
  have nd := scLaw.nd
  have hu := hu_of hr
  have hr1 : Room 1 _ := hr.mono (by decide)
  have hr2 : Room 2 _ := hr.mono (by decide)
  have hr3 : Room 3 _ := hr.mono (by decide)
  have hr4 : Room 4 _ := hr.mono (by decide)
  refine ⟨_, Evl.pss_cut (ps_if (pt_cmpR op_eq (pcl DD hr1 (pa_cons (pv 0) (pa_cons pe_int (pa_cons pe_int pa_nil)))) pe_int (nomark _)) (Evl.pss_cut (ps_asg (ptup (pa_cons (pe_op op_add pe_int (pcl DD hr1 (pa_cons (pv 0) (pa_cons pe_int (pa_cons pe_int pa_nil))))) (pa_cons (pe_op op_add pe_int (pcl DD hr1 (pa_cons (pv 0) (pa_cons pe_int (pa_cons pe_int pa_nil))))) pa_nil))) (pg_tup (by rfl) (pgs_cons (pg_name (i := 1) nd rfl (.inr rfl)) (pgs_cons (pg_name (i := 2) nd rfl (.inr rfl)) pgs_nil))))
    (Evl.pss_cut (ps_set (i := 3) nd rfl (.inl rfl) (pe_callTy (dictPK K) (by rfl) T.dict (by decide +kernel) (pa_cons (pe_lc (own := [("at", 13)]) (g := gName 13) (by rfl) nd (pi_range1 rfl T.range (pa_cons (pv 1) pa_nil)) (blkOk_by (N := nLaw) (sc := defScope sLaw) (by decide +kernel)) (fun _ _ _ _ _ => pg_name (i := 13) nd rfl (.inl rfl)) (fun _ _ _ _ _ => pts_nil) (fun _ _ _ _ _ => ptupN (pa_cons (pe_ix ix_str pe_str (pv 13) (fun _ _ => rfl)) (pa_cons (pe_op op_add pe_int (pcl DD hr1 (pa_cons (pv 0) (pa_cons (pe_op op_add pe_int (pv 13)) (pa_cons pe_int pa_nil))))) pa_nil)))) pa_nil)))
    (pss_one (ps_setLc (i := 4) (own := [("at", 13)]) (g := gName 13) (by rfl) nd rfl rfl (sw_true rfl rfl rfl (by decide +kernel)) (pi_range1 rfl T.range (pa_cons (pv 1) pa_nil)) (blkOk_by (N := nLaw) (sc := defScope sLaw) (by decide +kernel)) (fun _ _ _ _ _ => pg_name (i := 13) nd rfl (.inl rfl)) (fun _ _ _ _ _ => pts_nil) (fun _ _ _ _ _ => ptupN (pa_cons (pe_ix ix_str pe_str (pv 13) (fun _ _ => rfl)) (pa_cons (pe_ix ix_str pe_str (pe_op op_mod (pe_op op_add (pv 13) pe_int) (pv 1)) (fun _ _ => rfl)) (pa_cons (pe_ifExp (pt_cmpR op_eq (pv 13) (pe_op op_sub (pv 1) pe_int) (nomark _)) (pv 2) pe_int) pa_nil)))))))) (Evl.pss_cut (ps_asg (pcl DL hr2 (pa_cons (pv 0) (pa_cons pe_int pa_nil))) (pg_tup (by rfl) (pgs_cons (pg_name (i := 3) nd rfl (.inl rfl)) (pgs_cons (pg_name (i := 4) nd rfl (.inl rfl)) pgs_nil))))
    (pss_one (ps_if (pt_cmpR op_isN (pcl DB hr2 (pa_cons (pv 3) (pa_cons (pv 4) (pa_cons pe_dnewK pa_nil)))) pe_non (nomark _)) (pss_one (ps_ret pe_bl)) pss_nil))))
    (Evl.pss_cut (ps_set (i := 5) nd rfl (.inr rfl) (pe_make MP.M MP.ok hr (by rfl) MP.g MP.b .nil passL (pa_cons (pv 3) (pa_cons (pv 4) pa_nil))))
    (Evl.pss_cut (ps_set (i := 6) nd rfl (.inl rfl) (pcl DF hr4 (pa_cons (pv 5) pa_nil)))
    (Evl.pss_cut (ps_if (PW.pt (pw_or (pt_not (pt_val (pe_meth (pv 6) TF.cl DS.meth DS.ok hr3 DS.b .nil pass0 (pa_cons (pv 5) pa_nil)))) (pw_or1 (pt_cmpR op_ne (pcl DB hr2 (pa_cons (pv 3) (pa_cons (pv 4) (pa_cons (pe_fld (pv 6) rfl) pa_nil)))) (pe_fld (pv 6) rfl) (nomark _))))) (pss_one (ps_ret pe_bl)) pss_nil)
    (Evl.pss_cut (ps_if (pt_cmpR (eqDK K hr.units) (pe_fld (pv 6) rfl) (plst pa_nil) (nomark _)) (pss_one (ps_if (PW.pt (pw_and (pt_cmpR op_gt (pe_fld (pv 6) rfl) pe_int (nomark _)) (pw_and1 (PW.pt (pw_or (pt_cmpR op_ne (pe_callB call_len_seq (by rfl) T.len PySem.boot_len (pa_cons (pe_fld (pv 6) rfl) pa_nil)) pe_int (nomark _)) (pw_or1 (pt_cmpR op_ne (pe_dget hu (pe_fld (pv 5) rfl) (pe_ix (ixL K) (pe_fld (pv 6) rfl) pe_int (fun _ _ => rfl)) (fun _ _ => rfl)) (pe_fld (pv 6) rfl) (nomark _)))))))) (pss_one (ps_ret pe_bl)) pss_nil)) (pss_one (ps_if (pt_not (pt_val (pcl DR hr1 (pa_cons (pv 5) (pa_cons (pv 6) pa_nil))))) (pss_one (ps_ret pe_bl)) pss_nil)))
    (Evl.pss_cut (ps_set (i := 7) nd rfl (.inl rfl) (pe_slice sl_list (pe_callTy (call_listD (by rfl)) (by rfl) T.list (by decide +kernel) (pa_cons (pv 3) pa_nil)) po_none (po_some pe_int)))
    (pss_cons (ps_set (i := 8) nd rfl (.inl rfl) (plst (pa_cons pe_dnewK pa_nil)))
    (Evl.pss_cut (ps_for PassesOwn.never rfl (pi_list (pv 7)) (pg_name (i := 9) nd rfl (.inr rfl)) (pss_cons (ps_set (i := 10) nd rfl (.inl rfl) (plst pa_nil))
    (pss_cons (ps_for PassesOwn.never rfl (pi_list (pv 8)) (pg_name (i := 11) nd rfl (.inr rfl)) (pss_one (ps_set (i := 10) nd rfl (.inl rfl) (pe_op op_cat (pv 10) (pe_lc (own := [("number", 14)]) (g := gName 14) (by rfl) nd (pi_tup (ptup (pa_cons (pe_un un_neg pe_int) (pa_cons pe_int (pa_cons pe_int pa_nil))))) (blkOk_by (N := nLaw) (sc := defScope sLaw) (by decide +kernel)) (fun _ _ _ _ _ => pg_name (i := 14) nd rfl (.inl rfl)) (fun _ _ _ _ _ => pts_nil) (fun _ _ _ _ _ => (pe_callTy (dictPK K) (by rfl) T.dict (by decide +kernel) (pa_cons (pe_op op_cat (LiI.pe_listItems (by rfl) (pv 11) (by rfl) T.list (by decide +kernel)) (plst (pa_cons (ptupN (pa_cons (pv 9) (pa_cons (pv 14) pa_nil))) pa_nil))) pa_nil))))))))
    (pss_one (ps_set (i := 8) nd rfl (.inl rfl) (pv 10))))))
    (Evl.pss_cut (ps_for PassesOwn.never rfl (pi_list (pv 8)) (pg_name (i := 11) nd rfl (.inr rfl)) (pss_cons (ps_set (i := 12) nd rfl (.inl rfl) (pcl DB hr2 (pa_cons (pv 3) (pa_cons (pv 4) (pa_cons (pv 11) pa_nil)))))
    (pss_one (ps_if (PW.pt (pw_and (pt_cmpR op_notN (pv 12) pe_non (nomark _)) (pw_and1 (pt_cmpR op_lt (pv 12) (pe_fld (pv 6) rfl) (nomark _))))) (pss_one (ps_ret pe_bl)) pss_nil))))
    (Evl.pss_cut (ps_if (pt_cmpR op_gt (pcl DB hr2 (pa_cons (pv 3) (pa_cons (pv 4) (pa_cons (pclX DW hr4 (pa_cons (pv 5) (pa_cons (pe_fld (pv 6) rfl) pa_nil))) pa_nil)))) (pe_fld (pv 6) rfl) (nomark _)) (pss_one (ps_ret pe_bl)) pss_nil)
    (Evl.pss_cut (ps_try_many rfl rfl takes0 (fun W pn xe tk _ => pss_cons (ps_expr (pclE tk DW hr4 (pa_cons (pv 5) (pa_cons (pe_op op_sub (pfd K (pv 6)) pe_int) pa_nil)))) (pss_one (ps_ret pe_bl))) (.cons ⟨rfl, by decide, .inl TN.g⟩ (fun _ _ _ _ _ _ _ => pss_one ps_pass) .nil))
    (Evl.pss_cut (ps_if (pt_val (pe_meth (pe_make MF.M MF.ok hr2 (by rfl) MF.g MF.b .nil pass0 (pa_cons (pe_op op_add (pe_fld (pv 6) rfl) pe_int) (pa_cons (pe_fld (pv 6) rfl) (pa_cons (pe_fld (pv 6) rfl) (pa_cons (pe_fld (pv 6) rfl) pa_nil))))) TF.cl DS.meth DS.ok hr3 DS.b .nil pass0 (pa_cons (pv 5) pa_nil))) (pss_one (ps_ret pe_bl)) pss_nil)
    (pss_cons (ps_if (pt_cmpR (neDK K hr.units) (pe_fld (pv 6) rfl) (plst pa_nil) (nomark _)) (Evl.pss_cut (ps_if (PW.pt (pw_and (pt_val (pe_meth (pe_make MF.M MF.ok hr2 (by rfl) MF.g MF.b .nil pass0 (pa_cons (pe_fld (pv 6) rfl) (pa_cons (pe_fld (pv 6) rfl) (pa_cons (pe_fld (pv 6) rfl) (pa_cons (pe_slice sl_list (pe_fld (pv 6) rfl) (po_some pe_int) po_none) pa_nil))))) TF.cl DS.meth DS.ok hr3 DS.b .nil pass0 (pa_cons (pv 5) pa_nil))) (pw_and1 (pt_cmpR op_eq (pe_callB call_len_seq (by rfl) T.len PySem.boot_len (pa_cons (pe_fld (pv 6) rfl) pa_nil)) (pe_op op_add pe_int (pe_callB (cr_sum rfl) (by rfl) T.sum (by decide +kernel) (pa_cons (pe_lc (own := [("at", 13)]) (g := gName 13) (by rfl) nd (pi_list (pe_fld (pv 6) rfl)) (blkOk_by (N := nLaw) (sc := defScope sLaw) (by decide +kernel)) (fun _ _ _ _ _ => pg_name (i := 13) nd rfl (.inl rfl)) (fun _ _ _ _ _ => pts_nil) (fun _ _ _ _ _ => pe_ix (ixT K) (pe_ix (ixT K) (pfd K (pv 5)) (pv 13) (fun _ _ => rfl)) pe_int (fun _ _ => rfl))) pa_nil))) (nomark _))))) (pss_one (ps_ret pe_bl)) pss_nil)
    (pss_one (ps_ret (pe_or (pe_cmpR op_eq (pe_fld (pv 6) rfl) pe_int (nomark _)) (pe_one (pe_not (pe_meth (pe_make MF.M MF.ok hr2 (by rfl) MF.g MF.b .nil pass0 (pa_cons (pe_fld (pv 6) rfl) (pa_cons (pe_fld (pv 6) rfl) (pa_cons (plst pa_nil) (pa_cons (plst pa_nil) pa_nil))))) TF.cl DS.meth DS.ok hr3 DS.b .nil pass0 (pa_cons (pv 5) pa_nil)))))))) pss_nil)
    (pss_one (ps_ret (pe_or (pe_cmpR op_eq (pe_fld (pv 6) rfl) pe_int (nomark _)) (pe_one (pe_not (pe_meth (pe_make MF.M MF.ok hr2 (by rfl) MF.g MF.b .nil pass0 (pa_cons (pe_fld (pv 6) rfl) (pa_cons (pe_fld (pv 6) rfl) (pa_cons (plst pa_nil) (pa_cons (plst pa_nil) pa_nil))))) TF.cl DS.meth DS.ok hr3 DS.b .nil pass0 (pa_cons (pv 5) pa_nil))))))))))))))))))), ?_⟩
  -- delays and wires
  refine ⟨fun σ' G => ∃ (o1 o2 : Option V) (da wa : Addr) (gs : List Str) (d : Str → Int) (ws : List W3) (xs : List V), σ' = [some (.ref a), o1, o2, some (.ref da), some (.ref wa), none, none, none, none, none, none, none, none, none, none] ∧ Same H G ∧ G da = some (.dK (kN gs d)) ∧ G wa = some (.lst xs) ∧ Al (WAt G) xs ws ∧ PlnOk gs d ws ∧ NR gs d ws, ?_, ?_⟩
  · refine ⟨_, rfl, a, ns, 0, 3, rfl, hS, hlen, by decide, by decide, by decide, by decide, fun G1 r0 s1 p0 q0 => ⟨rfl, _, rfl, ?_⟩⟩
    rw [dec_int]
    by_cases c0 : r0 = 0
    · rw [decide_eq_true c0]
      refine iteT ?_
      -- numbers
      refine ⟨fun σ' G => ∃ N R : Nat, σ' = [some (.ref a), some (.int (N : Int)), some (.int (R : Int)), none, none, none, none, none, none, none, none, none, none, none, none] ∧ Same G1 G ∧ 2 ≤ N ∧ N ≤ 5 ∧ 1 ≤ R ∧ R ≤ 4, ?_, ?_⟩
      · refine ⟨_, rfl, a, ns, 1, 4, rfl, s1.seq hS, hlen, by decide, by decide, by decide, by decide, fun G2 r1 s2 p1 q1 => ⟨_, _, rfl, rfl, ?_⟩⟩
        refine ⟨_, rfl, a, ns, 2, 4, rfl, (s1.trans s2).seq hS, hlen, by decide, by decide, by decide, by decide, fun G3 r2 s3 p2 q2 => ⟨_, _, rfl, rfl, rd_t2 fun q G4 s4 hq => ?_⟩⟩
        obtain ⟨n1, rfl⟩ := Int.eq_ofNat_of_zero_le p1
        obtain ⟨n2, rfl⟩ := Int.eq_ofNat_of_zero_le p2
        exact ⟨q, _, rfl, SqT.of hq, rfl, _, _, rfl, _, _, rfl, rfl, 2 + n1, 1 + n2, by rw [Int.natCast_add, Int.natCast_add]; rfl, (s2.trans s3).trans s4, by omega, by omega, by omega, by omega⟩
      rintro σ' G2 ⟨N, R, rfl, s2, N2, N5, R1, R4⟩
      have s2 := s1.trans s2
      have iG : Inj lN N := fun i j hi hj e => lN_inj i (by omega) j (by omega) e
      have gnd : (ls6 N).Nodup := (List.nodup_append.mp (ls_ok N2 N5).nd).1
      -- delays
      refine ⟨fun σ' G => ∃ (da : Addr) (e : Nat → Int), σ' = [some (.ref a), some (.int (N : Int)), some (.int (R : Int)), some (.ref da), none, none, none, none, none, none, none, none, none, none, none] ∧ Same G2 G ∧ G da = some (.dK (kN (ls6 N) (lift lN N e))) ∧ ∀ i, i < N → 0 ≤ e i ∧ e i ≤ 5, ?_, ?_⟩
      · refine ⟨_, rfl, _, rfl, by omega, by omega, fun l nl => lc_it (walk_range (lo := 0) (n := N)) (fun j G => ∃ (ys : List V) (e : Nat → Int), Same G2 G ∧ G l = some (.lst ys) ∧ Al (PrW G) ys ((List.range j).map fun i => (lN i, V.int (e i))) ∧ ∀ i, i < j → 0 ≤ e i ∧ e i ≤ 5)
          ⟨[], fun _ => 0, same_upd nl, upd_same, Al.nil, fun i hi => by omega⟩ (fun _ _ _ _ => True.intro) ?_ ?_⟩
        · rintro j y GX GY hj ⟨ys, e, sG, gc, hys, he⟩ ⟨eG, rfl⟩
          obtain rfl : GX = GY := eG.symm
          have hyl := hys.1
          rw [rng_len] at hyl
          obtain ⟨c, hc, ec⟩ := lN_txt j (by omega)
          refine ⟨rfl, _, rfl, _, _, c, rfl, rfl, by decide, atI_mid (j := j) (by omega) hc, ?_⟩
          rw [ec]
          refine ⟨_, rfl, _, rfl, _, _, rfl, rfl, a, ns, _, 5, rfl, (s2.trans sG).seq hS, hlen, by omega, by omega, by decide, by decide, fun GV r3 sV p3 q3 => ⟨_, _, rfl, rfl, rd_t2 fun q GW sW hq => ?_⟩⟩
          have sVW := sV.trans sW
          have gcW := sVW _ _ gc
          have tW : Tups GW (upd GW l (.lst (ys ++ [.ref q]))) := fun b zs e => by rw [upd_ne (fun w => by rw [w, gcW] at e; cases e)]; exact e
          refine ⟨ys, gcW, szl (by omega), ys ++ [.ref q], fun i => if i = j then 1 + r3 else e i, (sG.trans sVW).mut nl, upd_same, ?_, fun i hi => ?_⟩
          · rw [rng_succ]
            have e1 : (List.range j).map (fun i => (lN i, V.int (if i = j then 1 + r3 else e i))) = (List.range j).map fun i => (lN i, V.int (e i)) := List.map_congr_left fun i hi => by
              have := List.mem_range.mp hi
              rw [if_neg (by omega)]
            rw [e1]
            refine ((hys.mono fun _ _ z => z.tups sVW.tups).mono fun _ _ z => z.tups tW).snoc ⟨q, rfl, ?_⟩
            rw [tW _ _ hq]
            dsimp only
            rw [if_pos rfl]
          · dsimp only
            split
            · omega
            · exact he i (by omega)
        · rintro G3 ⟨ys, e, sG, gc, hys, he⟩
          rw [lift_rows N5] at hys
          dsimp only [tNil, List.append_nil]
          refine rd_dict gc hys (by rw [List.map_map]; exact (List.map_id' (ls6 N)).symm ▸ gnd) fun da GD sD hD => ?_
          rw [kP_kN] at hD
          exact ⟨da, e, rfl, sG.trans sD, hD, he⟩
      rintro σ' G3 ⟨da, e, rfl, s3, hda, he⟩
      have s3 := s2.trans s3
      have hP := lring_pln (e := e) N2 N5 (R := (R : Int)) ⟨by omega, by omega⟩ he
      have hNR := hP.pc.nr (lring_rank N5 (by omega))
      refine ⟨_, rfl, _, rfl, by omega, by omega, fun l nl => lc_it (walk_range (lo := 0) (n := N)) (fun j G' => ∃ ys, Same G3 G' ∧ G' l = some (.lst ys) ∧ Al (WAt G') ys ((List.range j).map (lrW N (R : Int))))
        ⟨[], same_upd nl, upd_same, Al.nil⟩ (fun _ _ _ _ => True.intro) ?_ ?_⟩
      · rintro j y GX GY hj ⟨ys, sG, gc, hys⟩ ⟨eG, rfl⟩
        obtain rfl : GX = GY := eG.symm
        have hyl := hys.1
        rw [rng_len] at hyl
        have step : ∀ (q2 : Addr) (GW : Hp), Same GX GW → WAt GW (.ref q2) ((lrW N (R : Int)) j) →
            ∃ acc, GW l = some (.lst acc) ∧ acc.length < sizeLine ∧ ∃ ys, Same G3 (upd GW l (.lst (acc ++ [.ref q2]))) ∧ upd GW l (.lst (acc ++ [.ref q2])) l = some (.lst ys) ∧ Al (WAt (upd GW l (.lst (acc ++ [.ref q2])))) ys ((List.range (j + 1)).map (lrW N (R : Int))) := fun q2 GW sW hq2 => by
          have gcW := sW _ _ gc
          have tW : Tups GW (upd GW l (.lst (ys ++ [.ref q2]))) := fun b zs e => by rw [upd_ne (fun w => by rw [w, gcW] at e; cases e)]; exact e
          refine ⟨ys, gcW, szl (by omega), ys ++ [.ref q2], (sG.trans sW).mut nl, upd_same, ?_⟩
          rw [rng_succ]
          exact ((hys.mono fun _ _ z => z.tups sW.tups).mono fun _ _ z => z.tups tW).snoc (hq2.tups tW)
        obtain ⟨c, hc, ec⟩ := lN_txt j (by omega)
        obtain ⟨c2, hc2, ec2⟩ := lN_txt ((j + 1) % N) (by have := Nat.mod_lt (j + 1) (show 0 < N by omega); omega)
        have hm : (0 + (j : Int) + 1) % (N : Int) = (((j + 1) % N : Nat) : Int) := by rw [Int.zero_add]; rfl
        refine ⟨rfl, _, rfl, _, _, c, rfl, rfl, by decide, atI_mid (j := j) (by omega) hc, ?_⟩
        rw [ec]
        refine ⟨_, rfl, _, _, rfl, rfl, _, rfl, _, _, rfl, rfl, by omega, _, _, c2, rfl, rfl, by decide, atI_mid hm hc2, ?_⟩
        rw [ec2]
        refine ⟨_, rfl, _, rfl, _, _, rfl, rfl, rfl, _, rfl, ?_⟩
        by_cases c1 : j = N - 1
        · rw [dec_int, decide_eq_true (show 0 + (j : Int) = (N : Int) - 1 by omega)]
          refine iteT ⟨_, rfl, rd_t3 fun q2 GW sW hq2 => step q2 GW sW ⟨q2, rfl, ?_⟩⟩
          rw [hq2]; unfold lrW; rw [if_pos c1]
        · rw [dec_int, decide_eq_false (show ¬ 0 + (j : Int) = (N : Int) - 1 by omega)]
          refine iteF (rd_t3 fun q2 GW sW hq2 => step q2 GW sW ⟨q2, rfl, ?_⟩)
          rw [hq2]; unfold lrW; rw [if_neg c1]
      rintro G' ⟨ys, sG, gc, hys⟩
      exact ⟨_, _, da, l, _, _, _, ys, rfl, s3.trans sG, sG _ _ hda, gc, hys, hP, hNR⟩
    · rw [decide_eq_false c0]
      refine iteF ?_
      refine ⟨fun σ' G => ∃ (da wa : Addr) (gs : List Str) (d : Str → Int) (ws : List W3) (xs : List V), σ' = [some (.ref a), none, none, some (.ref da), some (.ref wa), none, none, none, none, none, none, none, none, none, none] ∧ Same G1 G ∧ G da = some (.dK (kN gs d)) ∧ G wa = some (.lst xs) ∧ Al (WAt G) xs ws ∧ PlnOk gs d ws, ?_, ?_⟩
      · refine ⟨_, rfl, a, ns, 20, rfl, s1.seq hS, hlen, by decide, by decide, fun r da wa G gs d ws xs s2 hr2 hda hwa hal hP => ?_⟩
        exact ⟨r, _, rfl, SqT.of hr2, rfl, _, _, rfl, _, _, rfl, rfl, da, wa, gs, d, ws, xs, rfl, s2, hda, hwa, hal, hP⟩
      rintro σ' G2 ⟨da, wa, gs, d, ws, xs, rfl, s2, hda, hwa, hal, hP⟩
      refine ⟨_, rfl, _, rfl, fun m nm0 => ?_⟩
      have s3 := same_upd (o := HO.dK []) nm0
      refine ⟨da, wa, m, gs, d, ws, xs, fun _ => 0, rfl, s3 _ _ hda, s3 _ _ hwa, hal.mono fun _ _ z => z.tups s3.tups, ⟨[], upd_same, fun x => .inl ⟨rfl, rfl⟩⟩, hP, fun r G s4 hL => ?_⟩
      cases r with
      | none => exact ⟨rfl, true, rfl, iteT (k G)⟩
      | some m =>
        have s34 := s3.trans s4
        exact ⟨rfl, false, rfl, iteF ⟨none, none, da, wa, gs, d, ws, xs, rfl, (s1.trans s2).trans s34, s34 _ _ hda, s34 _ _ hwa, hal.mono fun _ _ z => z.tups s34.tups, hP, hL.nr⟩⟩
  rintro σ' G1 ⟨o1, o2, da, wa, gs, d, ws, xs, rfl, s1, hda, hwa, hal, hP, hNR⟩
  have gl := hP.g.len
  have gnd : gs.Nodup := (List.nodup_append.mp hP.g.nd).1
  -- the plan
  refine ⟨fun σ' G => ∃ (p : Addr) (t : PL), σ' = [some (.ref a), o1, o2, some (.ref da), some (.ref wa), some (.ref p), none, none, none, none, none, none, none, none, none] ∧ Same G1 G ∧ PlAt C G p t ∧ PM gs d ws t, ?_, ?_⟩
  · exact ⟨_, rfl, _, rfl, fun p dx np ndx _ => make_plan hP.pc hNR hda hwa hal np ndx fun H' t s pl pm => ⟨rfl, p, t, rfl, s, pl, pm⟩⟩
  rintro σ' G2 ⟨p, t, rfl, s2, pl, pm⟩
  obtain ⟨rank, okr⟩ := pm.okr
  have okp := pm.okp
  have rt := pm.rt
  have rt0 := pm.rt0
  have hkl : t.ks.length ≤ 30 := okp.kl
  have htk : ∀ q ∈ ws, q.1 ∈ t.ks ∧ q.2.1 ∈ t.ks := fun q hq => by
    obtain ⟨h1, h2, _⟩ := hP.ww q hq
    exact ⟨pm.perm.mem_iff.mpr h1, pm.perm.mem_iff.mpr h2⟩
  -- found
  refine ⟨fun σ' G => ∃ (fa : Addr) (b : Int) (f : Str → Int) (wk : List Nat) (cs : List Cut1), σ' = [some (.ref a), o1, o2, some (.ref da), some (.ref wa), some (.ref p), some (.ref fa), none, none, none, none, none, none, none, none] ∧ Same G2 G ∧ FsAt CF G fa b t.ks f wk cs ∧ BestT t b f ∧ Ev t b wk cs, ?_, ?_⟩
  · exact ⟨_, rfl, p, t, rank, rfl, pl, okp, pm.k14, okr, fun fa G3 b f wk cs s3 hf hb f0 ev => ⟨fa, b, f, wk, cs, rfl, s3, hf, hb, ev⟩⟩
  rintro σ' G3 ⟨fa, b, f, wk, cs, rfl, s3, hf, hb, ev⟩
  have pl := pl.same s3
  have s3 := s2.trans s3
  have hda := s3 _ _ hda
  have hwa := s3 _ _ hwa
  have hal := hal.mono fun _ _ z => z.tups s3.tups
  have hB := pm.best hb
  obtain ⟨dx, da0, wa0, xs0, hpp, hpd, hpw, hpal⟩ := id pl
  obtain ⟨dxf, mf, wf, cf, xf, hfp, hfm, hfw, hfc, hfx⟩ := hf.ex
  have hxl := hfx.1
  have nF : ∀ {m w1 c1 : Addr} {b1 : Int} {x : Str}, (x == ("beat" : Str)) = false → (x == ("moves" : Str)) = false → (x == ("walk" : Str)) = false → (x == ("cuts" : Str)) = false → (ff b1 m w1 c1).lookup x = none := fun h1 h2 h3 h4 => ff_no h1 h2 h3 h4
  -- it shows itself, and has the beat
  refine ⟨fun σ' G => σ' = [some (.ref a), o1, o2, some (.ref da), some (.ref wa), some (.ref p), some (.ref fa), none, none, none, none, none, none, none, none] ∧ Same G3 G, ?_, ?_⟩
  · refine ⟨_, rfl, fa, dxf, _, rfl, hfp, nF (by decide +kernel) (by decide +kernel) (by decide +kernel) (by decide +kernel), _, rfl, fa, p, t, b, f, wk, cs, true, rfl, hf, pl, okp, sh_true rt hb ev, fun G4 s4 => ⟨_, rfl, iteF ?_⟩⟩
    refine ⟨_, rfl, _, rfl, _, rfl, fa, CF, dxf, _, _, rfl, s4 _ _ hfp, TF.cl, TF.nm, ff_m, da, wa, mf, gs, d, ws, xs, _, rfl, s4 _ _ hda, s4 _ _ hwa, hal.mono fun _ _ z => z.tups s4.tups, mv_kN (s4 _ _ hfm), hP, fun r G5 s5 hL => ?_⟩
    obtain rfl := hB.beat rt0 (hL.is.regs (mvK_rg htk))
    have s45 := s4.trans s5
    exact ⟨_, rfl, fa, CF, dxf, _, _, rfl, s45 _ _ hfp, TF.cl, TF.nb, ff_b, rfl, false, by show V.bl (!decide (V.int b = V.int b)) = _; simp, iteF ⟨rfl, s45⟩⟩
  rintro σ' G4 ⟨rfl, s4⟩
  have ivn : ∀ {G : Hp}, Same G3 G → G wf = some (.lst ((wk.map fun i => ((i : Nat) : Int)).map V.int)) := fun {G} s => by rw [s _ _ hfw, iV_ints]
  -- a gate, or a walk
  refine ⟨fun σ' G => σ' = [some (.ref a), o1, o2, some (.ref da), some (.ref wa), some (.ref p), some (.ref fa), none, none, none, none, none, none, none, none] ∧ Same G3 G, ?_, ?_⟩
  · refine ⟨_, rfl, fa, CF, dxf, _, _, rfl, s4 _ _ hfp, TF.cl, TF.nw, ff_w, rd_l0 fun q G5 nq s5 hq => ?_⟩
    have s45 := s4.trans s5
    refine ⟨.list ((wk.map fun i => ((i : Nat) : Int)).map PyData.int), .list [], .lst (SqL.of (ivn s45)) (dp_ints _), .lst (SqL.of hq) .nil, shaped_ints _, shaped_ints [], _, rfl, ?_⟩
    rw [eqv_empty]
    rcases ev with ⟨rfl, n, hn, en, rfl⟩ | ⟨rs, R, hr1', hr2', rfl, rfl⟩
    · refine iteT ?_
      refine ⟨_, rfl, fa, CF, dxf, _, _, rfl, s45 _ _ hfp, TF.cl, TF.nb, ff_b, _, _, rfl, rfl, _, rfl, ?_⟩
      obtain ⟨y, hy, ey⟩ := hfx.at' (i := 0) rfl
      have ey : y = .str n := ey
      subst ey
      have hx1 : xf = [.str n] := by
        cases xf with
        | nil => simp at hxl
        | cons z zs =>
          cases zs with
          | nil => simp at hy; rw [hy]
          | cons _ _ => simp at hxl
      subst hx1
      by_cases cb : 0 < b
      · rw [decide_eq_true cb]
        refine iteT ?_
        refine ⟨_, rfl, fa, CF, dxf, _, _, rfl, s45 _ _ hfp, TF.cl, TF.nc, ff_c, cf, _, rfl, .inl (SqL.of (s45 _ _ hfc)), rfl, false, rfl, iteF ?_⟩
        refine ⟨_, rfl, p, C, dx, _, _, rfl, s45 _ _ hpp, TP.cl, TP.nD, fld_d, _, rfl, fa, CF, dxf, _, _, rfl, s45 _ _ hfp, TF.cl, TF.nc, ff_c, cf, _, 0, _, rfl, rfl, SqL.of (s45 _ _ hfc), at0, da0, _, rfl, by rw [← kN_get (wf := t.d) hn]; exact .inl ⟨_, Sum.inr n, .inl (s45 _ _ hpd), rfl, rfl⟩, ?_⟩
        exact ⟨_, rfl, fa, CF, dxf, _, _, rfl, s45 _ _ hfp, TF.cl, TF.nb, ff_b, rfl, false, by rw [en]; simp, iteF ⟨rfl, s45⟩⟩
      · rw [decide_eq_false cb]
        exact iteF (iteF ⟨rfl, s45⟩)
    · obtain ⟨qs, u, evw, hlt⟩ := ring_evw R hr1' hr2'
      have hne : ((walkOf rs).map fun i => ((i : Nat) : Int)).map PyData.int ≠ [] := fun z => evw.walk.ne (List.eq_nil_of_length_eq_zero (by rw [← evw.walk.len, List.map_eq_nil_iff.mp (List.map_eq_nil_iff.mp z)]; rfl))
      have he : (((walkOf rs).map fun i => ((i : Nat) : Int)).map PyData.int).isEmpty = false := by
        cases e : ((walkOf rs).map fun i => ((i : Nat) : Int)).map PyData.int with
        | nil => exact absurd e hne
        | cons _ _ => rfl
      rw [he]
      refine iteF ⟨_, rfl, _, rfl, p, fa, t, b, t.ks, f, _, _, qs, u, rfl, hf.same s45, pl.same s45, okp, evw, hlt, fun G6 s6 => ⟨_, rfl, iteF ⟨rfl, s45.trans s6⟩⟩⟩
  rintro σ' G5 ⟨rfl, s5⟩
  clear s4
  -- names
  refine ⟨fun σ' G => ∃ nl : Addr, σ' = [some (.ref a), o1, o2, some (.ref da), some (.ref wa), some (.ref p), some (.ref fa), some (.ref nl), none, none, none, none, none, none, none] ∧ Same G3 G ∧ G nl = some (.lst ((gs.take 4).map V.str)), ?_, ?_⟩
  · refine ⟨_, rfl, da, _, rfl, .inl (s5 _ _ hda), fun l nl => ?_⟩
    have s6 := same_upd (o := HO.lst ((kN gs d).map fun kv => kV kv.1)) nl
    have hl : upd G5 l (.lst ((kN gs d).map fun kv => kV kv.1)) l = some (.lst (gs.map V.str)) := by
      rw [upd_same]; unfold kN; rw [List.map_map]; rfl
    generalize upd G5 l (.lst ((kN gs d).map fun kv => kV kv.1)) = G6 at s6 hl ⊢
    refine ⟨_, rfl, l, _, rfl, SqL.of hl, fun c nc => ?_⟩
    have ec : cutV (gs.map V.str) none (some 4) = (gs.take 4).map V.str := by rw [List.map_take]; exact cut_takeA (n := 4)
    rw [ec]
    exact ⟨c, rfl, (s5.trans s6).trans (same_upd nc), upd_same⟩
  rintro σ' G6 ⟨nl, rfl, s6, hnl⟩
  have tnd : (gs.take 4).Nodup := (List.take_sublist 4 gs).nodup gnd
  have tl4 : (gs.take 4).length ≤ 4 := by rw [List.length_take]; omega
  -- rows
  refine fun m0 nm0 => ?_
  have s7 := same_upd (o := HO.dK []) nm0
  have hm0 : upd G6 m0 (.dK []) m0 = some (.dK []) := upd_same
  generalize upd G6 m0 (.dK []) = G7 at s7 hm0 ⊢
  refine rd_l1 fun rl0 G8 nrl s8 hrl0 => ?_
  have s68 := s7.trans s8
  have hnl8 := s68 _ _ hnl
  refine ⟨fun σ' G => ∃ (rl : Addr) (zs : List V) (o9 o10 o11 : Option V), σ' = [some (.ref a), o1, o2, some (.ref da), some (.ref wa), some (.ref p), some (.ref fa), some (.ref nl), some (.ref rl), o9, o10, o11, none, none, none] ∧ Same G8 G ∧ G rl = some (.lst zs) ∧ ∀ z ∈ zs, RowA G z (gs.take 4), ?_, ?_⟩
  · refine ⟨_, rfl, nl, rfl, ⟨_, SqL.of hnl8⟩, for_it (walk_list (K := K) (a := nl) (xs := (gs.take 4).map V.str)) (fun i σ' G => ∃ (rl : Addr) (zs : List V) (o9 o10 o11 : Option V), σ' = [some (.ref a), o1, o2, some (.ref da), some (.ref wa), some (.ref p), some (.ref fa), some (.ref nl), some (.ref rl), o9, o10, o11, none, none, none] ∧ Same G8 G ∧ G rl = some (.lst zs) ∧ zs.length = 3 ^ i ∧ ∀ z ∈ zs, RowA G z ((gs.take 4).take i))
      ⟨rl0, _, none, none, none, rfl, Same.refl _, hrl0, rfl, fun z hz => by
        rw [List.mem_singleton.mp hz]
        exact ⟨m0, fun _ => 0, rfl, s8 _ _ hm0⟩⟩ (fun i σ' G _ hh => by obtain ⟨_, _, _, _, _, _, h, _⟩ := hh; exact SqL.of (h _ _ hnl8)) ?_ ?_⟩
    · rintro i y σ' G G' hi ⟨rl, zs, o9, o10, o11, rfl, sG, hrl, hzl, hzs⟩ ⟨eG, hy⟩
      obtain rfl : G = G' := eG.symm
      obtain ⟨n, hn, rfl⟩ := map_at hy
      have hi4 : i < 4 := by have := (List.getElem?_eq_some_iff.mp hn).1; omega
      have h27 : 3 ^ i ≤ 27 := Nat.pow_le_pow_right (by decide) (show i ≤ 3 by omega)
      have hnt := take_not tnd hn
      refine rd_l0 fun l0 Ga nl0 sa hl0 => ?_
      refine ⟨_, rfl, rl, rfl, ⟨_, SqL.of (sa _ _ hrl)⟩, for_it (walk_list (K := K) (a := rl) (xs := zs)) (fun j σ' G' => ∃ (ll : Addr) (ys : List V) (o11 : Option V), σ' = [some (.ref a), o1, o2, some (.ref da), some (.ref wa), some (.ref p), some (.ref fa), some (.ref nl), some (.ref rl), some (.str n), some (.ref ll), o11, none, none, none] ∧ Same Ga G' ∧ G' ll = some (.lst ys) ∧ ys.length = 3 * j ∧ ∀ z ∈ ys, RowA G' z ((gs.take 4).take (i + 1)))
        ⟨l0, [], o11, rfl, Same.refl _, hl0, rfl, fun z hz => by cases hz⟩ (fun j σ' G' _ hh => by obtain ⟨_, _, _, _, h, _⟩ := hh; exact SqL.of (h _ _ (sa _ _ hrl))) ?_ ?_⟩
      · rintro j y σ' Gb Gb' hj ⟨ll, ys, o11, rfl, sb, hll, hyl, hys⟩ ⟨eG, hy⟩
        obtain rfl : Gb = Gb' := eG.symm
        have hj' : j < zs.length := hj
        obtain ⟨ra, fr, rfl, hra⟩ := (hzs y (List.mem_of_getElem? hy)).same (sa.trans sb)
        refine ⟨_, rfl, _, rfl, rd_t3 fun tq Gc sc htq => ?_⟩
        refine ⟨tq, rfl, ⟨_, SqT.of htq⟩, fun cl ncl => lc_it (walk_tup (K := K) (a := tq) (xs := [.int (-1), .int 0, .int 1])) (fun m G' => ∃ vs : List V, Same Gc G' ∧ G' cl = some (.lst vs) ∧ vs.length = m ∧ ∀ z ∈ vs, RowA G' z ((gs.take 4).take (i + 1)))
          ⟨[], same_upd ncl, upd_same, rfl, fun z hz => by cases hz⟩ (fun m G' _ hh => by obtain ⟨_, h, _⟩ := hh; exact SqT.of (h _ _ htq)) ?_ ?_⟩
        · rintro m y GX GY hm ⟨vs, sX, gc, hvl, hvs⟩ ⟨eG, hy2⟩
          obtain rfl : GX = GY := eG.symm
          have hm3 : m < 3 := hm
          obtain ⟨number, rfl⟩ : ∃ number : Int, y = .int number := by
            have : m = 0 ∨ m = 1 ∨ m = 2 := by omega
            rcases this with rfl | rfl | rfl <;> (cases hy2; exact ⟨_, rfl⟩)
          have hraX := (sc.trans sX) _ _ hra
          refine ⟨rfl, _, rfl, ra, _, rfl, hraX, fun GZ q1 ts sZ _ _ _ hq1 hpr => ?_⟩
          have sZ : Same GX GZ := sZ
          have hpw2 : Al (PrW GZ) (ts.map V.ref) (((gs.take 4).take i).map fun n => (n, V.int (fr n))) := refs_prw hpr (by rw [kP_kN])
          have hpl := hpw2.1
          rw [List.length_map, List.length_map, List.length_take] at hpl
          refine ⟨_, rfl, _, rfl, rd_t2 fun tt GU sU htt => rd_l1 fun l9 GV nl9 sV hl9 => ⟨q1, l9, _, _, rfl, rfl, (sU.trans sV) _ _ hq1, hl9, ?_, fun cc ncc => ?_⟩⟩
          · rw [List.length_map]; simp only [List.length_cons, List.length_nil]; exact sz (by omega)
          have sW := same_upd (o := HO.lst (ts.map V.ref ++ [V.ref tt])) ncc
          have hcc : upd GV cc (.lst (ts.map V.ref ++ [V.ref tt])) cc = some (.lst (ts.map V.ref ++ [V.ref tt])) := upd_same
          generalize upd GV cc (.lst (ts.map V.ref ++ [V.ref tt])) = GW at sW hcc ⊢
          have sZW := (sU.trans sV).trans sW
          have hal2 : Al (PrW GW) (ts.map V.ref ++ [V.ref tt]) ((((gs.take 4).take i).map fun n => (n, V.int (fr n))) ++ [(n, V.int number)]) := (hpw2.mono fun _ _ z => z.tups sZW.tups).snoc ⟨tt, rfl, (sV.trans sW) _ _ htt⟩
          dsimp only [tNil, List.append_nil]
          refine rd_dict hcc hal2 (by rw [names_row, ← take_succ_at hn]; exact (List.take_sublist _ _).nodup tnd) fun dn GD sD hD => ?_
          rw [kP_row hnt, ← take_succ_at hn] at hD
          have sXD := (sZ.trans sZW).trans sD
          have gcD := sXD _ _ gc
          have sPut : Same Gc (upd GD cl (.lst (vs ++ [.ref dn]))) := (sX.trans sXD).mut ncl
          have keep : ∀ {z : V} {ks : List Str}, RowA GD z ks → RowA (upd GD cl (.lst (vs ++ [.ref dn]))) z ks := fun {z ks} h => by
            obtain ⟨a9, f9, e9, h9⟩ := h
            exact ⟨a9, f9, e9, by rw [upd_ne (fun w => by rw [w, gcD] at h9; cases h9)]; exact h9⟩
          refine ⟨vs, gcD, szl (by omega), vs ++ [.ref dn], sPut, upd_same, by rw [List.length_append, hvl]; rfl, fun z hz => ?_⟩
          rcases List.mem_append.mp hz with hz | hz
          · exact keep ((hvs z hz).same sXD)
          · rw [List.mem_singleton.mp hz]
            exact keep ⟨dn, _, rfl, hD⟩
        · rintro GX ⟨vs, sX, gc, hvl, hvs⟩
          have hvl : vs.length = 3 := hvl
          have hllX := (sc.trans sX) _ _ hll
          refine ⟨ll, cl, _, _, rfl, rfl, hllX, gc, sz (by omega), fun c nc => ?_⟩
          have sN := same_upd (o := HO.lst (ys ++ vs)) nc
          refine ⟨c, ys ++ vs, _, rfl, ((sb.trans sc).trans sX).trans sN, upd_same, by rw [List.length_append, hyl, hvl]; omega, fun z hz => ?_⟩
          rcases List.mem_append.mp hz with hz | hz
          · exact (hys z hz).same ((sc.trans sX).trans sN)
          · exact (hvs z hz).same sN
      · rintro σ' Gb ⟨ll, ys, o11, rfl, sb, hll, hyl, hys⟩
        refine ⟨_, rfl, ll, ys, _, _, _, rfl, (sG.trans sa).trans sb, hll, by rw [hyl, hzl, Nat.pow_succ, Nat.mul_comm], hys⟩
    · rintro σ' G ⟨rl, zs, o9, o10, o11, rfl, sG, hrl, _, hzs⟩
      rw [List.length_map, List.take_length] at hzs
      exact ⟨rl, zs, o9, o10, o11, rfl, sG, hrl, hzs⟩
  rintro σ' G9 ⟨rl, zs, o9, o10, o11, rfl, s9, hrl, hzs⟩
  have s9 := (s6.trans s68).trans s9
  clear s7 s8 s68 hm0 hrl0 hnl8 hnl
  -- no row has a lesser beat
  refine ⟨fun σ' G => ∃ (o11 o12 : Option V), σ' = [some (.ref a), o1, o2, some (.ref da), some (.ref wa), some (.ref p), some (.ref fa), some (.ref nl), some (.ref rl), o9, o10, o11, o12, none, none] ∧ Same G3 G, ?_, ?_⟩
  · refine ⟨_, rfl, rl, rfl, ⟨_, SqL.of hrl⟩, for_it (walk_list (K := K) (a := rl) (xs := zs)) (fun i σ' G => ∃ (o11 o12 : Option V), σ' = [some (.ref a), o1, o2, some (.ref da), some (.ref wa), some (.ref p), some (.ref fa), some (.ref nl), some (.ref rl), o9, o10, o11, o12, none, none] ∧ Same G9 G)
      ⟨o11, none, rfl, Same.refl _⟩ (fun i σ' G _ hh => by obtain ⟨_, _, _, h⟩ := hh; exact SqL.of (h _ _ hrl)) ?_ ?_⟩
    · rintro i y σ' G G' hi ⟨o11, o12, rfl, sG⟩ ⟨eG, hy⟩
      obtain rfl : G = G' := eG.symm
      obtain ⟨ra, fr, rfl, hra⟩ := (hzs y (List.mem_of_getElem? hy)).same sG
      have s9G := s9.trans sG
      refine ⟨_, rfl, _, rfl, _, rfl, da, wa, ra, gs, d, ws, xs, _, rfl, s9G _ _ hda, s9G _ _ hwa, hal.mono fun _ _ z => z.tups s9G.tups, mv_kN hra, hP, fun r G' s' hL => ?_⟩
      cases r with
      | none => exact ⟨_, rfl, rfl, false, rfl, iteF (iteF ⟨_, _, rfl, sG.trans s'⟩)⟩
      | some m =>
        have hbm := hB.le rt0 hL.is
        refine ⟨_, rfl, rfl, true, rfl, iteT ?_⟩
        refine ⟨_, rfl, _, rfl, fa, CF, dxf, _, _, rfl, (s9G.trans s') _ _ hfp, TF.cl, TF.nb, ff_b, _, _, rfl, rfl, _, rfl, ?_⟩
        rw [decide_eq_false (show ¬ m < b by omega)]
        exact iteF ⟨_, _, rfl, sG.trans s'⟩
    · rintro σ' G ⟨o11, o12, rfl, sG⟩
      exact ⟨_, _, rfl, s9.trans sG⟩
  clear hrl hzs s9
  rintro σ' G10 ⟨o11, o12, rfl, s10⟩
  -- with_beat
  refine ⟨fun σ' G => σ' = [some (.ref a), o1, o2, some (.ref da), some (.ref wa), some (.ref p), some (.ref fa), some (.ref nl), some (.ref rl), o9, o10, o11, o12, none, none] ∧ Same G3 G, ?_, ?_⟩
  · refine ⟨_, rfl, _, rfl, _, rfl, _, rfl, fa, CF, dxf, _, _, rfl, s10 _ _ hfp, TF.cl, TF.nb, ff_b, p, t, rank, b, rfl, pl.same s10, okp, pm.k14, okr, fun hno => (hno ⟨hb.dle, f, hb.good⟩).elim, fun _ mo G11 f4 s11 hmo hf4 hg4 => ?_⟩
    have s1A := s10.trans s11
    refine ⟨da, wa, mo, gs, d, ws, xs, _, rfl, s1A _ _ hda, s1A _ _ hwa, hal.mono fun _ _ z => z.tups s1A.tups, mv_kN hmo, hP, fun r G12 s12 hL => ?_⟩
    have hgg : Good ws (dL d) out f4 b := by
      have := hg4.congr okp.ends pm.td
      rw [pm.tw] at this
      exact this
    obtain ⟨m5, rfl, hm5⟩ := beat_of_good rt0 hgg hB.dle (hL.is.regs (mvK_rg htk))
    refine ⟨_, rfl, fa, CF, dxf, _, _, rfl, (s1A.trans s12) _ _ hfp, TF.cl, TF.nb, ff_b, _, _, rfl, rfl, _, rfl, ?_⟩
    rw [decide_eq_false (show ¬ b < m5 by omega)]
    exact iteF ⟨rfl, s1A.trans s12⟩
  clear s10
  rintro σ' G11 ⟨rfl, s11⟩
  -- no lesser beat
  refine ⟨fun σ' G => σ' = [some (.ref a), o1, o2, some (.ref da), some (.ref wa), some (.ref p), some (.ref fa), some (.ref nl), some (.ref rl), o9, o10, o11, o12, none, none] ∧ Same G3 G, ?_, ?_⟩
  · refine ⟨_, rfl, _, rfl, fa, CF, dxf, _, _, rfl, s11 _ _ hfp, TF.cl, TF.nb, ff_b, _, _, rfl, rfl, p, t, rank, b - 1, rfl, pl.same s11, okp, pm.k14, okr, fun _ G12 s12 => ⟨true, e2, fun _ _ _ => ⟨rfl, s11.trans s12⟩, fun z => nomatch z⟩, fun hF => ?_⟩
    obtain ⟨hd, mv, hg⟩ := hF
    have := hb.least _ _ hg hd
    exact absurd this (by omega)
  clear s11
  rintro σ' G12 ⟨rfl, s12⟩
  -- a greater beat
  refine ⟨fun σ' G => σ' = [some (.ref a), o1, o2, some (.ref da), some (.ref wa), some (.ref p), some (.ref fa), some (.ref nl), some (.ref rl), o9, o10, o11, o12, none, none] ∧ Same G3 G, ?_, ?_⟩
  · refine ⟨_, rfl, fa, CF, dxf, _, _, rfl, s12 _ _ hfp, TF.cl, TF.nb, ff_b, _, _, rfl, rfl, _, rfl, fa, CF, dxf, _, _, rfl, s12 _ _ hfp, TF.cl, TF.nm, ff_m, _, rfl, fa, CF, dxf, _, _, rfl, s12 _ _ hfp, TF.cl, TF.nw, ff_w, _, rfl, fa, CF, dxf, _, _, rfl, s12 _ _ hfp, TF.cl, TF.nc, ff_c, fun x dy nx ny _ => ?_⟩
    refine mk_fast (s12 _ _ hfm) okp.nd (by omega) (s12 _ _ hfw) (s12 _ _ hfc) (hfx.mono fun _ _ z => z.tups s12.tups) nx ny fun G13 s13 hfs => ⟨rfl, ?_⟩
    have s13 := s12.trans s13
    obtain ⟨dxg, _, _, _, _, hgp, _⟩ := hfs.ex
    exact ⟨x, dxg, _, rfl, hgp, nF (by decide +kernel) (by decide +kernel) (by decide +kernel) (by decide +kernel), _, rfl, x, p, t, b + 1, f, wk, cs, false, rfl, hfs, pl.same s13, okp, sh_more rt hb, fun G14 s14 => ⟨_, rfl, iteF ⟨rfl, s13.trans s14⟩⟩⟩
  clear s12
  rintro σ' G13 ⟨rfl, s13⟩
  -- what is left
  refine ⟨_, rfl, fa, CF, dxf, _, _, rfl, s13 _ _ hfp, TF.cl, TF.nw, ff_w, rd_l0 fun q G14 nq s14 hq => ?_⟩
  have s14 := s13.trans s14
  refine ⟨.list ((wk.map fun i => ((i : Nat) : Int)).map PyData.int), .list [], .lst (SqL.of (ivn s14)) (dp_ints _), .lst (SqL.of hq) .nil, shaped_ints _, shaped_ints [], _, rfl, ?_⟩
  rw [eqv_empty]
  rcases ev with ⟨rfl, n, hn, en, rfl⟩ | ⟨rs, R, hr1', hr2', rfl, rfl⟩
  · refine iteF ?_
    refine ⟨_, rfl, fa, CF, dxf, _, _, rfl, s14 _ _ hfp, TF.cl, TF.nb, ff_b, rfl, ?_⟩
    by_cases cb : b = 0
    · exact ⟨true, by rw [cb]; rfl, iteT (k _)⟩
    · refine ⟨false, by rw [dec_int, decide_eq_false cb], iteF ?_⟩
      refine ⟨_, rfl, fa, CF, dxf, _, _, rfl, s14 _ _ hfp, TF.cl, TF.nb, ff_b, _, rfl, fa, CF, dxf, _, _, rfl, s14 _ _ hfp, TF.cl, TF.nm, ff_m, rd_l0 fun l1 Ga nl1 sa h1 => rd_l0 fun l2 Gb nl2 sb h2 => fun x dy nx ny _ => ?_⟩
      have sab := (s14.trans sa).trans sb
      refine mk_fast (wk := []) (cs := []) (sab _ _ hfm) okp.nd (by omega) (sb _ _ h1) h2 Al.nil nx ny fun Gc sc hfs => ⟨rfl, ?_⟩
      obtain ⟨dxg, _, _, _, _, hgp, _⟩ := hfs.ex
      exact ⟨x, dxg, _, rfl, hgp, nF (by decide +kernel) (by decide +kernel) (by decide +kernel) (by decide +kernel), _, rfl, x, p, t, b, f, [], [], false, rfl, hfs, pl.same (sab.trans sc), okp, sh_none rt hb cb, fun Gd sd => ⟨_, rfl, k Gd⟩⟩
  · obtain ⟨qs, u, evw, hlt⟩ := ring_evw R hr1' hr2'
    have hne : ((walkOf rs).map fun i => ((i : Nat) : Int)).map PyData.int ≠ [] := fun z => evw.walk.ne (List.eq_nil_of_length_eq_zero (by rw [← evw.walk.len, List.map_eq_nil_iff.mp (List.map_eq_nil_iff.mp z)]; rfl))
    have he : (((walkOf rs).map fun i => ((i : Nat) : Int)).map PyData.int).isEmpty = false := by
      cases e : ((walkOf rs).map fun i => ((i : Nat) : Int)).map PyData.int with
      | nil => exact absurd e hne
      | cons _ _ => rfl
    have ivl : (iV (walkOf rs)).length = (walkOf rs).length := iV_len
    have hwl := evw.wl
    have hcl := evw.cl
    rw [he]
    refine iteT ?_
    have hpos : 0 ≤ (qs.map fun q => q.2.2).sum := by
      have hq0 : ∀ q ∈ qs, 0 ≤ q.2.2 := fun q hq => by
        obtain ⟨j, hj, e⟩ := List.mem_iff_getElem.mp hq
        have hjp : j < (walkOf rs).length := by rw [evw.walk.len]; exact hj
        exact rt.hpos q (List.mem_of_getElem? (evw.walk.at_.2 j _ q (List.getElem?_eq_getElem hjp) (by rw [List.getElem?_eq_getElem hj, e])))
      clear hlt hwl hcl evw
      induction qs with
      | nil => exact Int.le_refl _
      | cons q l ih =>
        rw [List.map_cons, List.sum_cons]
        have := hq0 q List.mem_cons_self
        have := ih fun x hx => hq0 x (List.mem_cons_of_mem _ hx)
        omega
    have hc1 : 1 ≤ xf.length := by omega
    have hdl : ((cutsOf 0 rs).drop 1).length = (cutsOf 0 rs).length - 1 := List.length_drop
    refine ⟨fun σ' G => σ' = [some (.ref a), o1, o2, some (.ref da), some (.ref wa), some (.ref p), some (.ref fa), some (.ref nl), some (.ref rl), o9, o10, o11, o12, none, none] ∧ Same G3 G, ?_, ?_⟩
    · refine ⟨_, rfl, fa, CF, dxf, _, _, rfl, s14 _ _ hfp, TF.cl, TF.nb, ff_b, _, rfl, fa, CF, dxf, _, _, rfl, s14 _ _ hfp, TF.cl, TF.nm, ff_m, _, rfl, fa, CF, dxf, _, _, rfl, s14 _ _ hfp, TF.cl, TF.nw, ff_w, _, rfl, fa, CF, dxf, _, _, rfl, s14 _ _ hfp, TF.cl, TF.nc, ff_c, _, rfl, cf, _, rfl, SqL.of (s14 _ _ hfc), fun c nc => ?_⟩
      rw [cut_one_drop hc1]
      have s15 := s14.trans (same_upd (o := HO.lst (xf.drop 1)) nc)
      have hcc : upd G14 c (.lst (xf.drop 1)) c = some (.lst (xf.drop 1)) := upd_same
      generalize upd G14 c (.lst (xf.drop 1)) = G15 at s15 hcc ⊢
      intro x dy nx ny _
      refine mk_fast (s15 _ _ hfm) okp.nd (by omega) (s15 _ _ hfw) hcc ((hfx.drop 1).mono fun _ _ z => z.tups s15.tups) nx ny fun G16 s16 hfs => ⟨rfl, ?_⟩
      have s16 := s15.trans s16
      obtain ⟨dxg, _, _, _, _, hgp, _⟩ := hfs.ex
      refine ⟨x, dxg, _, rfl, hgp, nF (by decide +kernel) (by decide +kernel) (by decide +kernel) (by decide +kernel), _, rfl, x, p, t, b, f, _, _, _, rfl, hfs, pl.same s16, okp, sh_tail rt hb evw, fun G17 s17 => ⟨_, rfl, ?_⟩⟩
      have s17 := s16.trans s17
      by_cases cq : (qs.map fun q => q.2.2).sum < (((cutsOf 0 rs).drop 1).length : Int)
      · rw [decide_eq_true cq]
        refine iteT ?_
        have hwl3 := s17 _ _ hfw
        refine ⟨_, rfl, fa, CF, dxf, _, _, rfl, s17 _ _ hfp, TF.cl, TF.nc, ff_c, cf, xf, rfl, .inl (SqL.of (s17 _ _ hfc)), _, rfl, fa, CF, dxf, _, _, rfl, s17 _ _ hfp, TF.cl, TF.nw, ff_w, wf, rfl, ⟨_, SqL.of hwl3⟩, fun c2 nc2 => lc_it (walk_list (K := K) (a := wf) (xs := iV (walkOf rs))) (fun j G => Same G17 G ∧ G c2 = some (.lst (((qs.take j).map fun q => q.2.2).map V.int)))
          ⟨same_upd nc2, upd_same⟩ (fun j G _ hh => SqL.of (hh.1 _ _ hwl3)) ?_ ?_⟩
        · rintro j y G G' hj ⟨sG, gc⟩ ⟨eH, ey⟩
          obtain rfl : G = G' := eH.symm
          obtain ⟨i, hi, rfl⟩ := iV_at ey
          obtain ⟨q, hq, hw⟩ := evw.walk.at_.at hi
          obtain ⟨x, hx, aw, rfl, ha⟩ := hpal.at' hw
          have s1G := s17.trans sG
          refine ⟨rfl, _, rfl, p, C, dx, _, _, rfl, s1G _ _ hpp, TP.cl, TP.nW, fld_w, _, rfl, wa0, xs0, _, _, rfl, rfl, SqT.of (s1G _ _ hpw), atI_nat hx, ?_⟩
          refine ⟨aw, _, 2, _, rfl, rfl, SqT.of (s1G _ _ ha), at2, ?_⟩
          have hjl : j < (iV (walkOf rs)).length := hj
          refine ⟨_, gc, ?_, sG.mut nc2, ?_⟩
          · rw [List.length_map, List.length_map, List.length_take]; exact szlM (by omega)
          · rw [upd_same, take_succ_at hq, List.map_append, List.map_append]; rfl
        · rintro G ⟨sG, gc⟩
          rw [ivl, evw.walk.len, List.take_length] at gc
          refine ⟨c2, _, rfl, SqL.of gc, _, _, rfl, rfl, rfl, _, rfl, ?_⟩
          rw [dec_int, decide_eq_false (show ¬ ((xf.length : Nat) : Int) = 1 + (qs.map fun q => q.2.2).sum by omega)]
          exact iteF ⟨rfl, s17.trans sG⟩
      · rw [decide_eq_false cq]
        exact iteF (iteF ⟨rfl, s17⟩)
    rintro σ' G15 ⟨rfl, s15⟩
    refine ⟨_, rfl, fa, CF, dxf, _, _, rfl, s15 _ _ hfp, TF.cl, TF.nb, ff_b, rfl, ?_⟩
    by_cases cb : b = 0
    · exact ⟨true, by rw [cb]; rfl, iteT (k _)⟩
    · refine ⟨false, by rw [dec_int, decide_eq_false cb], iteF ?_⟩
      refine ⟨_, rfl, fa, CF, dxf, _, _, rfl, s15 _ _ hfp, TF.cl, TF.nb, ff_b, _, rfl, fa, CF, dxf, _, _, rfl, s15 _ _ hfp, TF.cl, TF.nm, ff_m, rd_l0 fun l1 Ga nl1 sa h1 => rd_l0 fun l2 Gb nl2 sb h2 => fun x dy nx ny _ => ?_⟩
      have sab := (s15.trans sa).trans sb
      refine mk_fast (wk := []) (cs := []) (sab _ _ hfm) okp.nd (by omega) (sb _ _ h1) h2 Al.nil nx ny fun Gc sc hfs => ⟨rfl, ?_⟩
      obtain ⟨dxg, _, _, _, _, hgp, _⟩ := hfs.ex
      exact ⟨x, dxg, _, rfl, hgp, nF (by decide +kernel) (by decide +kernel) (by decide +kernel) (by decide +kernel), _, rfl, x, p, t, b, f, [], [], false, rfl, hfs, pl.same (sab.trans sc), okp, sh_none rt hb cb, fun Gd sd => ⟨_, rfl, k Gd⟩⟩

end
end PN
namespace PN
open PySem PySem.Spec PyProof.Rows L2 LayT
theorem kit_me {K : PySem.W.Frag} {C : Addr} : PySem.W.kitOne K (.ref C) (.ref C) = some true := by
  unfold PySem.W.kitOne
  rw [if_pos (show ((Value.ref C == Value.ref C) = true) by simp)]
theorem kit_ty_own {K : PySem.W.Frag} {C : Addr} {T : String} {b : Bool} (h1 : PySem.W.isClsIn K C = true) (h2 : PySem.W.typeIn K (.ref C) = some (.type "type")) (h3 : PySem.W.subIn K (.type T) (.ref C) = some b) : PySem.W.kitOne K (.type T) (.ref C) = some b := by
  have e : ((PySem.W.clsIn K C).isSome && PySem.W.typeIn K (.ref C) == some (.type "type")) = true := by
    have h1' : (PySem.W.clsIn K C).isSome = true := h1
    rw [h1', h2] <;> rfl
  unfold PySem.W.kitOne PySem.W.kitCls
  rw [if_neg (show ¬ ((Value.type T == Value.ref C) = true) from Bool.false_ne_true)]
  show (if ((PySem.W.clsIn K C).isSome && PySem.W.typeIn K (.ref C) == some (.type "type")) = true then PySem.W.subIn K (.type T) (.ref C) else none) = some b
  rw [if_pos e]
  exact h3
theorem exm_ab {K : PySem.W.Frag} {A B : Addr} {r : Bool} (h1 : PySem.W.subIn K (.ref B) (.type "BaseException") = some true) (h2 : PySem.W.isClsIn K B = true) (h3 : PySem.W.typeIn K (.ref B) = some (.type "type")) (h4 : PySem.W.subIn K (.ref A) (.ref B) = some r) :
    PySem.W.exmOne K (.ref A) (.ref B) = some r := by
  have e : ((PySem.W.clsIn K B).isSome && PySem.W.typeIn K (.ref B) == some (.type "type")) = true := by
    have h2' : (PySem.W.clsIn K B).isSome = true := h2
    rw [h2', h3] <;> rfl
  unfold PySem.W.exmOne PySem.W.kitCls
  rw [if_pos (show ((PySem.W.subIn K (.ref B) (.type "BaseException") == some true) = true) by rw [h1] <;> rfl)]
  show (if ((PySem.W.clsIn K B).isSome && PySem.W.typeIn K (.ref B) == some (.type "type")) = true then PySem.W.subIn K (.ref A) (.ref B) else none) = some r
  rw [if_pos e]
  exact h4
/-- the law's promise -/
def HasLaw (l : PySem.W.OpenLaw) (w : World) (K : PySem.W.Frag) (mg : Str → Option Value) (fa : Addr) : Prop :=
  ∃ fd : FuncData, (∀ (s : Shared) (u : Value), BindsTo s fd ⟨[u], []⟩ [("script", u)]) ∧ ∀ base : Heap, K.In base → base.Ns mainGlobals mg → FnOk l.prog w K mg base CX0 6 fa fd ["script"] (spLaw K)
set_option maxHeartbeats 0 in
theorem all_mk {l : PySem.W.OpenLaw} {w : World} {K : PySem.W.Frag} {h : Heap} {mg : Str → Option Value} {fa : Addr} (X : K.In h) (G : h.Ns mainGlobals mg) (hfa : mg "law" = some (.ref fa))
    {fNum : Addr} {odNum anNum : Option Addr} {slNum : Array (Option Value)} {ocNum kVNum dcNum pmNum cdNum ctNum : Value}
    {fWrd : Addr} {odWrd anWrd : Option Addr} {slWrd : Array (Option Value)} {ocWrd kVWrd dcWrd pmWrd cdWrd ctWrd : Value}
    {fOrd : Addr} {odOrd anOrd : Option Addr} {slOrd : Array (Option Value)} {ocOrd kVOrd dcOrd pmOrd cdOrd ctOrd : Value}
    {fAreD : Addr} {odAreD anAreD : Option Addr} {slAreD : Array (Option Value)} {ocAreD kVAreD dcAreD pmAreD cdAreD ctAreD : Value}
    {fIsD : Addr} {odIsD anIsD : Option Addr} {slIsD : Array (Option Value)} {ocIsD kVIsD dcIsD pmIsD cdIsD ctIsD : Value}
    {fAreW : Addr} {odAreW anAreW : Option Addr} {slAreW : Array (Option Value)} {ocAreW kVAreW dcAreW pmAreW cdAreW ctAreW : Value}
    {fIsW : Addr} {odIsW anIsW : Option Addr} {slIsW : Array (Option Value)} {ocIsW kVIsW dcIsW pmIsW cdIsW ctIsW : Value}
    {fPut : Addr} {odPut anPut : Option Addr} {slPut : Array (Option Value)} {ocPut kVPut dcPut pmPut cdPut ctPut : Value}
    {fPaths : Addr} {odPaths anPaths : Option Addr} {slPaths : Array (Option Value)} {ocPaths kVPaths dcPaths pmPaths cdPaths ctPaths : Value}
    {fLims : Addr} {odLims anLims : Option Addr} {slLims : Array (Option Value)} {ocLims kVLims dcLims pmLims cdLims ctLims : Value}
    {fWithin : Addr} {odWithin anWithin : Option Addr} {slWithin : Array (Option Value)} {ocWithin kVWithin dcWithin pmWithin cdWithin ctWithin : Value}
    {fNeed : Addr} {odNeed anNeed : Option Addr} {slNeed : Array (Option Value)} {ocNeed kVNeed dcNeed pmNeed cdNeed ctNeed : Value}
    {fStood : Addr} {odStood anStood : Option Addr} {slStood : Array (Option Value)} {ocStood kVStood dcStood pmStood cdStood ctStood : Value}
    {fWith : Addr} {odWith anWith : Option Addr} {slWith : Array (Option Value)} {ocWith kVWith dcWith pmWith cdWith ctWith : Value}
    {fWalkOf : Addr} {odWalkOf anWalkOf : Option Addr} {slWalkOf : Array (Option Value)} {ocWalkOf kVWalkOf dcWalkOf pmWalkOf cdWalkOf ctWalkOf : Value}
    {fFastest : Addr} {odFastest anFastest : Option Addr} {slFastest : Array (Option Value)} {ocFastest kVFastest dcFastest pmFastest cdFastest ctFastest : Value}
    {fDraw : Addr} {odDraw anDraw : Option Addr} {slDraw : Array (Option Value)} {ocDraw kVDraw dcDraw pmDraw cdDraw ctDraw : Value}
    {fIsWalk : Addr} {odIsWalk anIsWalk : Option Addr} {slIsWalk : Array (Option Value)} {ocIsWalk kVIsWalk dcIsWalk pmIsWalk cdIsWalk ctIsWalk : Value}
    {fApart : Addr} {odApart anApart : Option Addr} {slApart : Array (Option Value)} {ocApart kVApart dcApart pmApart cdApart ctApart : Value}
    {fLPlan : Addr} {odLPlan anLPlan : Option Addr} {slLPlan : Array (Option Value)} {ocLPlan kVLPlan dcLPlan pmLPlan cdLPlan ctLPlan : Value}
    {fLBeat : Addr} {odLBeat anLBeat : Option Addr} {slLBeat : Array (Option Value)} {ocLBeat kVLBeat dcLBeat pmLBeat cdLBeat ctLBeat : Value}
    {fLRing : Addr} {odLRing anLRing : Option Addr} {slLRing : Array (Option Value)} {ocLRing kVLRing dcLRing pmLRing cdLRing ctLRing : Value}
    {fRuled : Addr} {odRuled anRuled : Option Addr} {slRuled : Array (Option Value)} {ocRuled kVRuled dcRuled pmRuled cdRuled ctRuled : Value}
    {fLaw : Addr} {odLaw anLaw : Option Addr} {slLaw : Array (Option Value)} {ocLaw kVLaw dcLaw pmLaw cdLaw ctLaw : Value}
    {C CP CL CF CB CN : Addr} {tgL tg8 tgO tgW tgI tgD tgR : Tok}
    {fInit : Addr} {odInit anInit : Option Addr} {slInit : Array (Option Value)} {ocInit kVInit dcInit pmInit cdInit ctInit : Value}
    {fRegs : Addr} {odRegs anRegs : Option Addr} {slRegs : Array (Option Value)} {ocRegs kVRegs dcRegs pmRegs cdRegs ctRegs : Value}
    {fBeat : Addr} {odBeat anBeat : Option Addr} {slBeat : Array (Option Value)} {ocBeat kVBeat dcBeat pmBeat cdBeat ctBeat : Value}
    {fPInit : Addr} {odPInit anPInit : Option Addr} {slPInit : Array (Option Value)} {ocPInit kVPInit dcPInit pmPInit cdPInit ctPInit : Value}
    {fBefore : Addr} {odBefore anBefore : Option Addr} {slBefore : Array (Option Value)} {ocBefore kVBefore dcBefore pmBefore cdBefore ctBefore : Value}
    {fLInit : Addr} {odLInit anLInit : Option Addr} {slLInit : Array (Option Value)} {ocLInit kVLInit dcLInit pmLInit cdLInit ctLInit : Value}
    {fFInit : Addr} {odFInit anFInit : Option Addr} {slFInit : Array (Option Value)} {ocFInit kVFInit dcFInit pmFInit cdFInit ctFInit : Value}
    {fOneG : Addr} {odOneG anOneG : Option Addr} {slOneG : Array (Option Value)} {ocOneG kVOneG dcOneG pmOneG cdOneG ctOneG : Value}
    {fIsLong : Addr} {odIsLong anIsLong : Option Addr} {slIsLong : Array (Option Value)} {ocIsLong kVIsLong dcIsLong pmIsLong cdIsLong ctIsLong : Value}
    {fShows : Addr} {odShows anShows : Option Addr} {slShows : Array (Option Value)} {ocShows kVShows dcShows pmShows cdShows ctShows : Value}
    (aNum : PySem.W.nsIn K mainGlobals "is_number" = some (some (.ref fNum)))
    (lNum : K.lookup fNum = some ⟨ocNum, odNum, .func (PySem.W.fnOf "is_number" "is_number" (defArgs sNum) (defBody sNum) (defScope sNum) .none kVNum dcNum pmNum anNum cdNum ctNum), slNum⟩)
    (cNum : PySem.W.codeIn K cdNum "is_number" = true)
    (kNum : PySem.W.keepIn K (.ref fNum) = true)
    (aWrd : PySem.W.nsIn K mainGlobals "is_word" = some (some (.ref fWrd)))
    (lWrd : K.lookup fWrd = some ⟨ocWrd, odWrd, .func (PySem.W.fnOf "is_word" "is_word" (defArgs sWord) (defBody sWord) (defScope sWord) .none kVWrd dcWrd pmWrd anWrd cdWrd ctWrd), slWrd⟩)
    (cWrd : PySem.W.codeIn K cdWrd "is_word" = true)
    (kWrd : PySem.W.keepIn K (.ref fWrd) = true)
    (aOrd : PySem.W.nsIn K mainGlobals "order_of" = some (some (.ref fOrd)))
    (lOrd : K.lookup fOrd = some ⟨ocOrd, odOrd, .func (PySem.W.fnOf "order_of" "order_of" (defArgs sOrd) (defBody sOrd) (defScope sOrd) .none kVOrd dcOrd pmOrd anOrd cdOrd ctOrd), slOrd⟩)
    (cOrd : PySem.W.codeIn K cdOrd "order_of" = true)
    (kOrd : PySem.W.keepIn K (.ref fOrd) = true)
    (aAreD : PySem.W.nsIn K mainGlobals "are_delays" = some (some (.ref fAreD)))
    (lAreD : K.lookup fAreD = some ⟨ocAreD, odAreD, .func (PySem.W.fnOf "are_delays" "are_delays" (defArgs sAreD) (defBody sAreD) (defScope sAreD) .none kVAreD dcAreD pmAreD anAreD cdAreD ctAreD), slAreD⟩)
    (cAreD : PySem.W.codeIn K cdAreD "are_delays" = true)
    (kAreD : PySem.W.keepIn K (.ref fAreD) = true)
    (aIsD : PySem.W.nsIn K mainGlobals "is_delay" = some (some (.ref fIsD)))
    (lIsD : K.lookup fIsD = some ⟨ocIsD, odIsD, .func (PySem.W.fnOf "is_delay" "is_delay" (defArgs sIsD) (defBody sIsD) (defScope sIsD) .none kVIsD dcIsD pmIsD anIsD cdIsD ctIsD), slIsD⟩)
    (cIsD : PySem.W.codeIn K cdIsD "is_delay" = true)
    (kIsD : PySem.W.keepIn K (.ref fIsD) = true)
    (aAreW : PySem.W.nsIn K mainGlobals "are_wires" = some (some (.ref fAreW)))
    (lAreW : K.lookup fAreW = some ⟨ocAreW, odAreW, .func (PySem.W.fnOf "are_wires" "are_wires" (defArgs sAreW) (defBody sAreW) (defScope sAreW) .none kVAreW dcAreW pmAreW anAreW cdAreW ctAreW), slAreW⟩)
    (cAreW : PySem.W.codeIn K cdAreW "are_wires" = true)
    (kAreW : PySem.W.keepIn K (.ref fAreW) = true)
    (aIsW : PySem.W.nsIn K mainGlobals "is_wire" = some (some (.ref fIsW)))
    (lIsW : K.lookup fIsW = some ⟨ocIsW, odIsW, .func (PySem.W.fnOf "is_wire" "is_wire" (defArgs sIsW) (defBody sIsW) (defScope sIsW) .none kVIsW dcIsW pmIsW anIsW cdIsW ctIsW), slIsW⟩)
    (cIsW : PySem.W.codeIn K cdIsW "is_wire" = true)
    (kIsW : PySem.W.keepIn K (.ref fIsW) = true)
    (aPut : PySem.W.nsIn K mainGlobals "put_path" = some (some (.ref fPut)))
    (lPut : K.lookup fPut = some ⟨ocPut, odPut, .func (PySem.W.fnOf "put_path" "put_path" (defArgs sPut) (defBody sPut) (defScope sPut) .none kVPut dcPut pmPut anPut cdPut ctPut), slPut⟩)
    (cPut : PySem.W.codeIn K cdPut "put_path" = true)
    (kPut : PySem.W.keepIn K (.ref fPut) = true)
    (aPaths : PySem.W.nsIn K mainGlobals "paths_of" = some (some (.ref fPaths)))
    (lPaths : K.lookup fPaths = some ⟨ocPaths, odPaths, .func (PySem.W.fnOf "paths_of" "paths_of" (defArgs sPaths) (defBody sPaths) (defScope sPaths) .none kVPaths dcPaths pmPaths anPaths cdPaths ctPaths), slPaths⟩)
    (cPaths : PySem.W.codeIn K cdPaths "paths_of" = true)
    (kPaths : PySem.W.keepIn K (.ref fPaths) = true)
    (aLims : PySem.W.nsIn K mainGlobals "limits_of" = some (some (.ref fLims)))
    (lLims : K.lookup fLims = some ⟨ocLims, odLims, .func (PySem.W.fnOf "limits_of" "limits_of" (defArgs sLimits) (defBody sLimits) (defScope sLimits) .none kVLims dcLims pmLims anLims cdLims ctLims), slLims⟩)
    (cLims : PySem.W.codeIn K cdLims "limits_of" = true)
    (kLims : PySem.W.keepIn K (.ref fLims) = true)
    (aWithin : PySem.W.nsIn K mainGlobals "moves_within" = some (some (.ref fWithin)))
    (lWithin : K.lookup fWithin = some ⟨ocWithin, odWithin, .func (PySem.W.fnOf "moves_within" "moves_within" (defArgs sWithin) (defBody sWithin) (defScope sWithin) .none kVWithin dcWithin pmWithin anWithin cdWithin ctWithin), slWithin⟩)
    (cWithin : PySem.W.codeIn K cdWithin "moves_within" = true)
    (kWithin : PySem.W.keepIn K (.ref fWithin) = true)
    (aNeed : PySem.W.nsIn K mainGlobals "need_plan" = some (some (.ref fNeed)))
    (lNeed : K.lookup fNeed = some ⟨ocNeed, odNeed, .func (PySem.W.fnOf "need_plan" "need_plan" (defArgs sNeed) (defBody sNeed) (defScope sNeed) .none kVNeed dcNeed pmNeed anNeed cdNeed ctNeed), slNeed⟩)
    (cNeed : PySem.W.codeIn K cdNeed "need_plan" = true)
    (kNeed : PySem.W.keepIn K (.ref fNeed) = true)
    (aStood : PySem.W.nsIn K mainGlobals "stood" = some (some (.ref fStood)))
    (lStood : K.lookup fStood = some ⟨ocStood, odStood, .func (PySem.W.fnOf "stood" "stood" (defArgs sStood) (defBody sStood) (defScope sStood) .none kVStood dcStood pmStood anStood cdStood ctStood), slStood⟩)
    (cStood : PySem.W.codeIn K cdStood "stood" = true)
    (kStood : PySem.W.keepIn K (.ref fStood) = true)
    (aWith : PySem.W.nsIn K mainGlobals "with_beat" = some (some (.ref fWith)))
    (lWith : K.lookup fWith = some ⟨ocWith, odWith, .func (PySem.W.fnOf "with_beat" "with_beat" (defArgs sWith) (defBody sWith) (defScope sWith) .none kVWith dcWith pmWith anWith cdWith ctWith), slWith⟩)
    (cWith : PySem.W.codeIn K cdWith "with_beat" = true)
    (kWith : PySem.W.keepIn K (.ref fWith) = true)
    (aWalkOf : PySem.W.nsIn K mainGlobals "walk_of" = some (some (.ref fWalkOf)))
    (lWalkOf : K.lookup fWalkOf = some ⟨ocWalkOf, odWalkOf, .func (PySem.W.fnOf "walk_of" "walk_of" (defArgs sWalkOf) (defBody sWalkOf) (defScope sWalkOf) .none kVWalkOf dcWalkOf pmWalkOf anWalkOf cdWalkOf ctWalkOf), slWalkOf⟩)
    (cWalkOf : PySem.W.codeIn K cdWalkOf "walk_of" = true)
    (kWalkOf : PySem.W.keepIn K (.ref fWalkOf) = true)
    (aFastest : PySem.W.nsIn K mainGlobals "fastest" = some (some (.ref fFastest)))
    (lFastest : K.lookup fFastest = some ⟨ocFastest, odFastest, .func (PySem.W.fnOf "fastest" "fastest" (defArgs sFastest) (defBody sFastest) (defScope sFastest) .none kVFastest dcFastest pmFastest anFastest cdFastest ctFastest), slFastest⟩)
    (cFastest : PySem.W.codeIn K cdFastest "fastest" = true)
    (kFastest : PySem.W.keepIn K (.ref fFastest) = true)
    (aDraw : PySem.W.nsIn K mainGlobals "_law_draw" = some (some (.ref fDraw)))
    (lDraw : K.lookup fDraw = some ⟨ocDraw, odDraw, .func (PySem.W.fnOf "_law_draw" "_law_draw" (defArgs sDraw) (defBody sDraw) (defScope sDraw) .none kVDraw dcDraw pmDraw anDraw cdDraw ctDraw), slDraw⟩)
    (cDraw : PySem.W.codeIn K cdDraw "_law_draw" = true)
    (kDraw : PySem.W.keepIn K (.ref fDraw) = true)
    (aIsWalk : PySem.W.nsIn K mainGlobals "is_walk" = some (some (.ref fIsWalk)))
    (lIsWalk : K.lookup fIsWalk = some ⟨ocIsWalk, odIsWalk, .func (PySem.W.fnOf "is_walk" "is_walk" (defArgs sIsWalk) (defBody sIsWalk) (defScope sIsWalk) .none kVIsWalk dcIsWalk pmIsWalk anIsWalk cdIsWalk ctIsWalk), slIsWalk⟩)
    (cIsWalk : PySem.W.codeIn K cdIsWalk "is_walk" = true)
    (kIsWalk : PySem.W.keepIn K (.ref fIsWalk) = true)
    (aApart : PySem.W.nsIn K mainGlobals "are_apart" = some (some (.ref fApart)))
    (lApart : K.lookup fApart = some ⟨ocApart, odApart, .func (PySem.W.fnOf "are_apart" "are_apart" (defArgs sApart) (defBody sApart) (defScope sApart) .none kVApart dcApart pmApart anApart cdApart ctApart), slApart⟩)
    (cApart : PySem.W.codeIn K cdApart "are_apart" = true)
    (kApart : PySem.W.keepIn K (.ref fApart) = true)
    (aLPlan : PySem.W.nsIn K mainGlobals "_law_plan" = some (some (.ref fLPlan)))
    (lLPlan : K.lookup fLPlan = some ⟨ocLPlan, odLPlan, .func (PySem.W.fnOf "_law_plan" "_law_plan" (defArgs sLPlan) (defBody sLPlan) (defScope sLPlan) .none kVLPlan dcLPlan pmLPlan anLPlan cdLPlan ctLPlan), slLPlan⟩)
    (cLPlan : PySem.W.codeIn K cdLPlan "_law_plan" = true)
    (kLPlan : PySem.W.keepIn K (.ref fLPlan) = true)
    (aLBeat : PySem.W.nsIn K mainGlobals "_law_beat" = some (some (.ref fLBeat)))
    (lLBeat : K.lookup fLBeat = some ⟨ocLBeat, odLBeat, .func (PySem.W.fnOf "_law_beat" "_law_beat" (defArgs sLBeat) (defBody sLBeat) (defScope sLBeat) .none kVLBeat dcLBeat pmLBeat anLBeat cdLBeat ctLBeat), slLBeat⟩)
    (cLBeat : PySem.W.codeIn K cdLBeat "_law_beat" = true)
    (kLBeat : PySem.W.keepIn K (.ref fLBeat) = true)
    (aLRing : PySem.W.nsIn K mainGlobals "_law_ring" = some (some (.ref fLRing)))
    (lLRing : K.lookup fLRing = some ⟨ocLRing, odLRing, .func (PySem.W.fnOf "_law_ring" "_law_ring" (defArgs sLRing) (defBody sLRing) (defScope sLRing) .none kVLRing dcLRing pmLRing anLRing cdLRing ctLRing), slLRing⟩)
    (cLRing : PySem.W.codeIn K cdLRing "_law_ring" = true)
    (kLRing : PySem.W.keepIn K (.ref fLRing) = true)
    (aRuled : PySem.W.nsIn K mainGlobals "_law_ruled" = some (some (.ref fRuled)))
    (lRuled : K.lookup fRuled = some ⟨ocRuled, odRuled, .func (PySem.W.fnOf "_law_ruled" "_law_ruled" (defArgs sRuled) (defBody sRuled) (defScope sRuled) .none kVRuled dcRuled pmRuled anRuled cdRuled ctRuled), slRuled⟩)
    (cRuled : PySem.W.codeIn K cdRuled "_law_ruled" = true)
    (kRuled : PySem.W.keepIn K (.ref fRuled) = true)
    (aLaw : PySem.W.nsIn K mainGlobals "law" = some (some (.ref fLaw)))
    (lLaw : K.lookup fLaw = some ⟨ocLaw, odLaw, .func (PySem.W.fnOf "law" "law" (defArgs sLaw) (defBody sLaw) (defScope sLaw) .none kVLaw dcLaw pmLaw anLaw cdLaw ctLaw), slLaw⟩)
    (cLaw : PySem.W.codeIn K cdLaw "law" = true)
    (kLaw : PySem.W.keepIn K (.ref fLaw) = true)
    (aC : PySem.W.nsIn K mainGlobals "Plan" = some (some (.ref C)))
    (pgC : PySem.W.plainGet K C Str.empty = true)
    (hdC : PySem.W.hasDictIn K C = true)
    (poC : PySem.W.plainOver K C = true)
    (saC : PySem.W.findIn K (.ref C) "__setattr__" = some (some (.builtin "object.__setattr__")))
    (mkC : PySem.W.makesIn K C = true)
    (kcC : PySem.W.keepIn K (.ref C) = true)
    (nC0 : PySem.W.findIn K (.ref C) "delays" = some none)
    (nC1 : PySem.W.findIn K (.ref C) "wires" = some none)
    (aCP : PySem.W.nsIn K mainGlobals "Path" = some (some (.ref CP)))
    (pgCP : PySem.W.plainGet K CP Str.empty = true)
    (hdCP : PySem.W.hasDictIn K CP = true)
    (poCP : PySem.W.plainOver K CP = true)
    (saCP : PySem.W.findIn K (.ref CP) "__setattr__" = some (some (.builtin "object.__setattr__")))
    (mkCP : PySem.W.makesIn K CP = true)
    (kcCP : PySem.W.keepIn K (.ref CP) = true)
    (nCP0 : PySem.W.findIn K (.ref CP) "held" = some none)
    (nCP1 : PySem.W.findIn K (.ref CP) "delay" = some none)
    (nCP2 : PySem.W.findIn K (.ref CP) "places" = some none)
    (aCL : PySem.W.nsIn K mainGlobals "Limit" = some (some (.ref CL)))
    (pgCL : PySem.W.plainGet K CL Str.empty = true)
    (hdCL : PySem.W.hasDictIn K CL = true)
    (poCL : PySem.W.plainOver K CL = true)
    (saCL : PySem.W.findIn K (.ref CL) "__setattr__" = some (some (.builtin "object.__setattr__")))
    (mkCL : PySem.W.makesIn K CL = true)
    (kcCL : PySem.W.keepIn K (.ref CL) = true)
    (nCL0 : PySem.W.findIn K (.ref CL) "begin" = some none)
    (nCL1 : PySem.W.findIn K (.ref CL) "to" = some none)
    (nCL2 : PySem.W.findIn K (.ref CL) "path" = some none)
    (nCL3 : PySem.W.findIn K (.ref CL) "keeps" = some none)
    (nCL4 : PySem.W.findIn K (.ref CL) "most" = some none)
    (aCF : PySem.W.nsIn K mainGlobals "Fastest" = some (some (.ref CF)))
    (pgCF : PySem.W.plainGet K CF Str.empty = true)
    (hdCF : PySem.W.hasDictIn K CF = true)
    (poCF : PySem.W.plainOver K CF = true)
    (saCF : PySem.W.findIn K (.ref CF) "__setattr__" = some (some (.builtin "object.__setattr__")))
    (mkCF : PySem.W.makesIn K CF = true)
    (kcCF : PySem.W.keepIn K (.ref CF) = true)
    (nCF0 : PySem.W.findIn K (.ref CF) "beat" = some none)
    (nCF1 : PySem.W.findIn K (.ref CF) "moves" = some none)
    (nCF2 : PySem.W.findIn K (.ref CF) "walk" = some none)
    (nCF3 : PySem.W.findIn K (.ref CF) "cuts" = some none)
    (aInit : PySem.W.findIn K (.ref C) "__init__" = some (some (.ref fInit)))
    (iInit : PySem.W.isFn K (.ref fInit) = true)
    (lInit : K.lookup fInit = some ⟨ocInit, odInit, .func (PySem.W.fnOf "__init__" "Plan.__init__" (defArgs sInit) (defBody sInit) (defScope sInit) .none kVInit dcInit pmInit anInit cdInit ctInit), slInit⟩)
    (cInit : PySem.W.codeIn K cdInit "Plan.__init__" = true)
    (kInit : PySem.W.keepIn K (.ref fInit) = true)
    (aRegs : PySem.W.findIn K (.ref C) "registers" = some (some (.ref fRegs)))
    (iRegs : PySem.W.isFn K (.ref fRegs) = true)
    (lRegs : K.lookup fRegs = some ⟨ocRegs, odRegs, .func (PySem.W.fnOf "registers" "Plan.registers" (defArgs sRegs) (defBody sRegs) (defScope sRegs) .none kVRegs dcRegs pmRegs anRegs cdRegs ctRegs), slRegs⟩)
    (cRegs : PySem.W.codeIn K cdRegs "Plan.registers" = true)
    (kRegs : PySem.W.keepIn K (.ref fRegs) = true)
    (aBeat : PySem.W.findIn K (.ref C) "beat" = some (some (.ref fBeat)))
    (iBeat : PySem.W.isFn K (.ref fBeat) = true)
    (lBeat : K.lookup fBeat = some ⟨ocBeat, odBeat, .func (PySem.W.fnOf "beat" "Plan.beat" (defArgs sBeat) (defBody sBeat) (defScope sBeat) .none kVBeat dcBeat pmBeat anBeat cdBeat ctBeat), slBeat⟩)
    (cBeat : PySem.W.codeIn K cdBeat "Plan.beat" = true)
    (kBeat : PySem.W.keepIn K (.ref fBeat) = true)
    (aPInit : PySem.W.findIn K (.ref CP) "__init__" = some (some (.ref fPInit)))
    (iPInit : PySem.W.isFn K (.ref fPInit) = true)
    (lPInit : K.lookup fPInit = some ⟨ocPInit, odPInit, .func (PySem.W.fnOf "__init__" "Path.__init__" (defArgs sPInit) (defBody sPInit) (defScope sPInit) .none kVPInit dcPInit pmPInit anPInit cdPInit ctPInit), slPInit⟩)
    (cPInit : PySem.W.codeIn K cdPInit "Path.__init__" = true)
    (kPInit : PySem.W.keepIn K (.ref fPInit) = true)
    (aBefore : PySem.W.findIn K (.ref CP) "comes_before" = some (some (.ref fBefore)))
    (iBefore : PySem.W.isFn K (.ref fBefore) = true)
    (lBefore : K.lookup fBefore = some ⟨ocBefore, odBefore, .func (PySem.W.fnOf "comes_before" "Path.comes_before" (defArgs sBefore) (defBody sBefore) (defScope sBefore) .none kVBefore dcBefore pmBefore anBefore cdBefore ctBefore), slBefore⟩)
    (cBefore : PySem.W.codeIn K cdBefore "Path.comes_before" = true)
    (kBefore : PySem.W.keepIn K (.ref fBefore) = true)
    (aLInit : PySem.W.findIn K (.ref CL) "__init__" = some (some (.ref fLInit)))
    (iLInit : PySem.W.isFn K (.ref fLInit) = true)
    (lLInit : K.lookup fLInit = some ⟨ocLInit, odLInit, .func (PySem.W.fnOf "__init__" "Limit.__init__" (defArgs sLInit) (defBody sLInit) (defScope sLInit) .none kVLInit dcLInit pmLInit anLInit cdLInit ctLInit), slLInit⟩)
    (cLInit : PySem.W.codeIn K cdLInit "Limit.__init__" = true)
    (kLInit : PySem.W.keepIn K (.ref fLInit) = true)
    (aFInit : PySem.W.findIn K (.ref CF) "__init__" = some (some (.ref fFInit)))
    (iFInit : PySem.W.isFn K (.ref fFInit) = true)
    (lFInit : K.lookup fFInit = some ⟨ocFInit, odFInit, .func (PySem.W.fnOf "__init__" "Fastest.__init__" (defArgs sFInit) (defBody sFInit) (defScope sFInit) .none kVFInit dcFInit pmFInit anFInit cdFInit ctFInit), slFInit⟩)
    (cFInit : PySem.W.codeIn K cdFInit "Fastest.__init__" = true)
    (kFInit : PySem.W.keepIn K (.ref fFInit) = true)
    (aOneG : PySem.W.findIn K (.ref CF) "is_one_gate" = some (some (.ref fOneG)))
    (iOneG : PySem.W.isFn K (.ref fOneG) = true)
    (lOneG : K.lookup fOneG = some ⟨ocOneG, odOneG, .func (PySem.W.fnOf "is_one_gate" "Fastest.is_one_gate" (defArgs sOneG) (defBody sOneG) (defScope sOneG) .none kVOneG dcOneG pmOneG anOneG cdOneG ctOneG), slOneG⟩)
    (cOneG : PySem.W.codeIn K cdOneG "Fastest.is_one_gate" = true)
    (kOneG : PySem.W.keepIn K (.ref fOneG) = true)
    (aIsLong : PySem.W.findIn K (.ref CF) "is_long" = some (some (.ref fIsLong)))
    (iIsLong : PySem.W.isFn K (.ref fIsLong) = true)
    (lIsLong : K.lookup fIsLong = some ⟨ocIsLong, odIsLong, .func (PySem.W.fnOf "is_long" "Fastest.is_long" (defArgs sIsLong) (defBody sIsLong) (defScope sIsLong) .none kVIsLong dcIsLong pmIsLong anIsLong cdIsLong ctIsLong), slIsLong⟩)
    (cIsLong : PySem.W.codeIn K cdIsLong "Fastest.is_long" = true)
    (kIsLong : PySem.W.keepIn K (.ref fIsLong) = true)
    (aShows : PySem.W.findIn K (.ref CF) "shows" = some (some (.ref fShows)))
    (iShows : PySem.W.isFn K (.ref fShows) = true)
    (lShows : K.lookup fShows = some ⟨ocShows, odShows, .func (PySem.W.fnOf "shows" "Fastest.shows" (defArgs sShows) (defBody sShows) (defScope sShows) .none kVShows dcShows pmShows anShows cdShows ctShows), slShows⟩)
    (cShows : PySem.W.codeIn K cdShows "Fastest.shows" = true)
    (kShows : PySem.W.keepIn K (.ref fShows) = true)
    (iaC : PySem.W.findIn K (.ref C) "__class__" = some (some (.builtin "object.__class__")))
    (ihC : PySem.W.specialIn K (.builtin "object.__class__") "__get__" = some (some (.builtin "getset_descriptor.__get__")))
    (itC : PySem.W.takesIn K (.builtin "object.__class__") = some true)
    (imC : PySem.W.mroIn K C (.type "object") = some true)
    (icC : PySem.W.isClsIn K C = true)
    (iyC : PySem.W.typeIn K (.ref C) = some (.type "type"))
    (iiCint : PySem.W.subIn K (.type "int") (.ref C) = some false)
    (aCB : PySem.W.nsIn K mainGlobals "BadPlan" = some (some (.ref CB)))
    (qCB : PySem.W.excIn K CB [.type "ValueError", .type "Exception", .type "BaseException", .type "object"] "ValueError.__new__" = true)
    (kCB : PySem.W.keepIn K (.ref CB) = true)
    (bCB : PySem.W.subIn K (.ref CB) (.type "BaseException") = some true)
    (tCB : PySem.W.typeIn K (.ref CB) = some (.type "type"))
    (iCB : PySem.W.isClsIn K CB = true)
    (sCB : PySem.W.subIn K (.ref CB) (.ref CB) = some true)
    (aCN : PySem.W.nsIn K mainGlobals "NoPlacing" = some (some (.ref CN)))
    (qCN : PySem.W.excIn K CN [.type "ValueError", .type "Exception", .type "BaseException", .type "object"] "ValueError.__new__" = true)
    (kCN : PySem.W.keepIn K (.ref CN) = true)
    (bCN : PySem.W.subIn K (.ref CN) (.type "BaseException") = some true)
    (tCN : PySem.W.typeIn K (.ref CN) = some (.type "type"))
    (iCN : PySem.W.isClsIn K CN = true)
    (sCN : PySem.W.subIn K (.ref CN) (.ref CN) = some true)
    (gL : PySem.W.nsIn K mainGlobals "LETTERS" = some (some (.str "abcdefghijklmnopqrstuvwxyz" tgL)))
    (g8 : PySem.W.nsIn K mainGlobals "LONGEST_WORD" = some (some (.int 8 tg8)))
    (gO : PySem.W.nsIn K mainGlobals "OUTSIDE" = some (some (.str "out" tgO)))
    (gW : PySem.W.nsIn K mainGlobals "MOST_WORDS" = some (some (.int 12 tgW)))
    (gI : PySem.W.nsIn K mainGlobals "MOST_WIRES" = some (some (.int 40 tgI)))
    (gD : PySem.W.nsIn K mainGlobals "GREATEST_DELAY" = some (some (.int 1000 tgD)))
    (gR : PySem.W.nsIn K mainGlobals "MOST_REGISTERS" = some (some (.int 20 tgR)))
    (z0 : PySem.W.nsIn K mainGlobals "isinstance" = some none)
    (z1 : PySem.W.nsIn K mainGlobals "int" = some none)
    (z2 : PySem.W.nsIn K mainGlobals "bool" = some none)
    (z3 : PySem.W.nsIn K mainGlobals "str" = some none)
    (z4 : PySem.W.nsIn K mainGlobals "tuple" = some none)
    (z5 : PySem.W.nsIn K mainGlobals "dict" = some none)
    (z6 : PySem.W.nsIn K mainGlobals "list" = some none)
    (z7 : PySem.W.nsIn K mainGlobals "len" = some none)
    (z8 : PySem.W.nsIn K mainGlobals "all" = some none)
    (z9 : PySem.W.nsIn K mainGlobals "any" = some none)
    (z10 : PySem.W.nsIn K mainGlobals "min" = some none)
    (z11 : PySem.W.nsIn K mainGlobals "max" = some none)
    (z12 : PySem.W.nsIn K mainGlobals "sum" = some none)
    (z13 : PySem.W.nsIn K mainGlobals "sorted" = some none)
    (z14 : PySem.W.nsIn K mainGlobals "enumerate" = some none)
    (z15 : PySem.W.nsIn K mainGlobals "range" = some none)
    (z16 : PySem.W.nsIn K mainGlobals "reversed" = some none)
    (z17 : PySem.W.nsIn K mainGlobals "zip" = some none)
    (z18 : PySem.W.nsIn K mainGlobals "set" = some none)
    : HasLaw l w K mg fa := by
  have e := hfa.symm.trans (PySem.W.mg_of X G aLaw)
  cases e
  have T : Txt K mg := ⟨⟨_, PySem.W.mg_of X G gL, _, rfl⟩, ⟨_, PySem.W.mg_of X G g8, _, rfl⟩, ⟨_, PySem.W.mg_of X G gO, _, rfl⟩, ⟨_, PySem.W.mg_of X G gW, _, rfl⟩, ⟨_, PySem.W.mg_of X G gI, _, rfl⟩, ⟨_, PySem.W.mg_of X G gD, _, rfl⟩, ⟨_, PySem.W.mg_of X G gR, _, rfl⟩, PySem.W.mg_none_of X G z0, PySem.W.mg_none_of X G z1, PySem.W.mg_none_of X G z2, PySem.W.mg_none_of X G z3, PySem.W.mg_none_of X G z4, PySem.W.mg_none_of X G z5, PySem.W.mg_none_of X G z6, PySem.W.mg_none_of X G z7, PySem.W.mg_none_of X G z8, PySem.W.mg_none_of X G z9, PySem.W.mg_none_of X G z10, PySem.W.mg_none_of X G z11, PySem.W.mg_none_of X G z12, PySem.W.mg_none_of X G z13, PySem.W.mg_none_of X G z14, PySem.W.mg_none_of X G z15, PySem.W.mg_none_of X G z16, PySem.W.mg_none_of X G z17⟩
  have TQ : TxtQ mg := ⟨PySem.W.mg_none_of X G z18⟩
  have TP : TxtP K mg C := ⟨⟨pgC, hdC, poC, saC⟩, nC0, nC1, PySem.W.mg_of X G aC⟩
  have TA : TxtPa K mg CP := ⟨⟨pgCP, hdCP, poCP, saCP⟩, nCP0, nCP1, nCP2, PySem.W.mg_of X G aCP⟩
  have TL : TxtL K mg CL := ⟨⟨pgCL, hdCL, poCL, saCL⟩, nCL0, nCL1, nCL2, nCL3, nCL4, PySem.W.mg_of X G aCL⟩
  have TF : TxtF K mg CF := ⟨⟨pgCF, hdCF, poCF, saCF⟩, nCF0, nCF1, nCF2, nCF3, PySem.W.mg_of X G aCF⟩
  have IC : C8.InsC K C := ⟨⟨pgC, hdC, poC, saC⟩, iaC, ihC, itC, imC, kit_me⟩
  have IN : InsN K C := ⟨IC, kit_ty_own icC iyC iiCint⟩
  have TCB : ErrC K mg "BadPlan" CB := ⟨qCB, PySem.W.mg_of X G aCB, kCB, bCB, tCB⟩
  have eCB := exm_ab bCB iCB tCB sCB
  have TCN : ErrC K mg "NoPlacing" CN := ⟨qCN, PySem.W.mg_of X G aCN, kCN, bCN, tCN⟩
  have eCN := exm_ab bCN iCN tCN sCN
  have FNum := fun_mk (st := sNum) lNum cNum kNum
  have FWrd := fun_mk (st := sWord) lWrd cWrd kWrd
  have FOrd := fun_mk (st := sOrd) lOrd cOrd kOrd
  have FAreD := fun_mk (st := sAreD) lAreD cAreD kAreD
  have FIsD := fun_mk (st := sIsD) lIsD cIsD kIsD
  have FAreW := fun_mk (st := sAreW) lAreW cAreW kAreW
  have FIsW := fun_mk (st := sIsW) lIsW cIsW kIsW
  have FPut := fun_mk (st := sPut) lPut cPut kPut
  have FPaths := fun_mk (st := sPaths) lPaths cPaths kPaths
  have FLims := fun_mk (st := sLimits) lLims cLims kLims
  have FWithin := fun_mk (st := sWithin) lWithin cWithin kWithin
  have FNeed := fun_mk (st := sNeed) lNeed cNeed kNeed
  have FStood := fun_mk (st := sStood) lStood cStood kStood
  have FWith := fun_mk (st := sWith) lWith cWith kWith
  have FWalkOf := fun_mk (st := sWalkOf) lWalkOf cWalkOf kWalkOf
  have FFastest := fun_mk (st := sFastest) lFastest cFastest kFastest
  have FDraw := fun_mk (st := sDraw) lDraw cDraw kDraw
  have FIsWalk := fun_mk (st := sIsWalk) lIsWalk cIsWalk kIsWalk
  have FApart := fun_mk (st := sApart) lApart cApart kApart
  have FLPlan := fun_mk (st := sLPlan) lLPlan cLPlan kLPlan
  have FLBeat := fun_mk (st := sLBeat) lLBeat cLBeat kLBeat
  have FLRing := fun_mk (st := sLRing) lLRing cLRing kLRing
  have FRuled := fun_mk (st := sRuled) lRuled cRuled kRuled
  have FLaw := fun_mk (st := sLaw) lLaw cLaw kLaw
  have FInit := fun_mk (st := sInit) lInit cInit kInit
  have FRegs := fun_mk (st := sRegs) lRegs cRegs kRegs
  have FBeat := fun_mk (st := sBeat) lBeat cBeat kBeat
  have FPInit := fun_mk (st := sPInit) lPInit cPInit kPInit
  have FBefore := fun_mk (st := sBefore) lBefore cBefore kBefore
  have FLInit := fun_mk (st := sLInit) lLInit cLInit kLInit
  have FFInit := fun_mk (st := sFInit) lFInit cFInit kFInit
  have FOneG := fun_mk (st := sOneG) lOneG cOneG kOneG
  have FIsLong := fun_mk (st := sIsLong) lIsLong cIsLong kIsLong
  have FShows := fun_mk (st := sShows) lShows cShows kShows
  have bNum := FNum.binds (ps := ["thing"]) fun _ _ _ _ _ _ us hl => match us, hl with | [_], _ => rfl
  have bWrd := FWrd.binds (ps := ["thing"]) fun _ _ _ _ _ _ us hl => match us, hl with | [_], _ => rfl
  have bOrd := FOrd.binds (ps := ["reads"]) fun _ _ _ _ _ _ us hl => match us, hl with | [_], _ => rfl
  have bAreD := FAreD.binds (ps := ["thing"]) fun _ _ _ _ _ _ us hl => match us, hl with | [_], _ => rfl
  have bIsD := FIsD.binds (ps := ["gate", "thing"]) fun _ _ _ _ _ _ us hl => match us, hl with | [_, _], _ => rfl
  have bAreW := FAreW.binds (ps := ["thing", "gates"]) fun _ _ _ _ _ _ us hl => match us, hl with | [_, _], _ => rfl
  have bIsW := FIsW.binds (ps := ["thing", "gates"]) fun _ _ _ _ _ _ us hl => match us, hl with | [_, _], _ => rfl
  have bPut := FPut.binds (ps := ["found", "ends", "path"]) fun _ _ _ _ _ _ us hl => match us, hl with | [_, _, _], _ => rfl
  have bPaths := FPaths.binds (ps := ["plan"]) fun _ _ _ _ _ _ us hl => match us, hl with | [_], _ => rfl
  have bLims := FLims.binds (ps := ["plan", "paths", "beat"]) fun _ _ _ _ _ _ us hl => match us, hl with | [_, _, _], _ => rfl
  have bWithin := FWithin.binds (ps := ["gates", "limits"]) fun _ _ _ _ _ _ us hl => match us, hl with | [_, _], _ => rfl
  have bNeed := FNeed.binds (ps := ["plan"]) fun _ _ _ _ _ _ us hl => match us, hl with | [_], _ => rfl
  have bStood := FStood.binds (ps := ["moves"]) fun _ _ _ _ _ _ us hl => match us, hl with | [_], _ => rfl
  have bWith := FWith.binds (ps := ["plan", "beat"]) fun _ _ _ _ _ _ us hl => match us, hl with | [_, _], _ => rfl
  have bWalkOf := FWalkOf.binds (ps := ["ring"]) fun _ _ _ _ _ _ us hl => match us, hl with | [_], _ => rfl
  have bFastest := FFastest.binds (ps := ["plan"]) fun _ _ _ _ _ _ us hl => match us, hl with | [_], _ => rfl
  have bDraw := FDraw.binds (ps := ["script", "at", "many"]) fun _ _ _ _ _ _ us hl => match us, hl with | [_, _, _], _ => rfl
  have bIsWalk := FIsWalk.binds (ps := ["plan", "walk"]) fun _ _ _ _ _ _ us hl => match us, hl with | [_, _], _ => rfl
  have bApart := FApart.binds (ps := ["cuts", "many"]) fun _ _ _ _ _ _ us hl => match us, hl with | [_, _], _ => rfl
  have bLPlan := FLPlan.binds (ps := ["script", "at"]) fun _ _ _ _ _ _ us hl => match us, hl with | [_, _], _ => rfl
  have bLBeat := FLBeat.binds (ps := ["delays", "wires", "moves"]) fun _ _ _ _ _ _ us hl => match us, hl with | [_, _, _], _ => rfl
  have bLRing := FLRing.binds (ps := ["bare"]) fun _ _ _ _ _ _ us hl => match us, hl with | [_], _ => rfl
  have bRuled := FRuled.binds (ps := ["plan", "found"]) fun _ _ _ _ _ _ us hl => match us, hl with | [_, _], _ => rfl
  have bInit := FInit.binds (ps := ["self", "delays", "wires"]) fun _ _ _ _ _ _ us hl => match us, hl with | [_, _, _], _ => rfl
  have bRegs := FRegs.binds (ps := ["self", "moves"]) fun _ _ _ _ _ _ us hl => match us, hl with | [_, _], _ => rfl
  have bBeat := FBeat.binds (ps := ["self", "moves"]) fun _ _ _ _ _ _ us hl => match us, hl with | [_, _], _ => rfl
  have bPInit := FPInit.binds (ps := ["self", "held", "delay", "places"]) fun _ _ _ _ _ _ us hl => match us, hl with | [_, _, _, _], _ => rfl
  have bBefore := FBefore.binds (ps := ["self", "other"]) fun _ _ _ _ _ _ us hl => match us, hl with | [_, _], _ => rfl
  have bLInit := FLInit.binds (ps := ["self", "begin", "to", "path", "keeps"]) fun _ _ _ _ _ _ us hl => match us, hl with | [_, _, _, _, _], _ => rfl
  have bFInit := FFInit.binds (ps := ["self", "beat", "moves", "walk", "cuts"]) fun _ _ _ _ _ _ us hl => match us, hl with | [_, _, _, _, _], _ => rfl
  have bOneG := FOneG.binds (ps := ["self", "plan"]) fun _ _ _ _ _ _ us hl => match us, hl with | [_, _], _ => rfl
  have bIsLong := FIsLong.binds (ps := ["self", "plan", "first", "behind"]) fun _ _ _ _ _ _ us hl => match us, hl with | [_, _, _, _], _ => rfl
  have bShows := FShows.binds (ps := ["self", "plan"]) fun _ _ _ _ _ _ us hl => match us, hl with | [_, _], _ => rfl
  have gNum' := PySem.W.mg_of X G aNum
  have gWrd' := PySem.W.mg_of X G aWrd
  have gOrd' := PySem.W.mg_of X G aOrd
  have gAreD' := PySem.W.mg_of X G aAreD
  have gIsD' := PySem.W.mg_of X G aIsD
  have gAreW' := PySem.W.mg_of X G aAreW
  have gIsW' := PySem.W.mg_of X G aIsW
  have gPut' := PySem.W.mg_of X G aPut
  have gPaths' := PySem.W.mg_of X G aPaths
  have gLims' := PySem.W.mg_of X G aLims
  have gWithin' := PySem.W.mg_of X G aWithin
  have gNeed' := PySem.W.mg_of X G aNeed
  have gStood' := PySem.W.mg_of X G aStood
  have gWith' := PySem.W.mg_of X G aWith
  have gWalkOf' := PySem.W.mg_of X G aWalkOf
  have gFastest' := PySem.W.mg_of X G aFastest
  have gDraw' := PySem.W.mg_of X G aDraw
  have gIsWalk' := PySem.W.mg_of X G aIsWalk
  have gApart' := PySem.W.mg_of X G aApart
  have gLPlan' := PySem.W.mg_of X G aLPlan
  have gLBeat' := PySem.W.mg_of X G aLBeat
  have gLRing' := PySem.W.mg_of X G aLRing
  have gRuled' := PySem.W.mg_of X G aRuled
  refine ⟨PySem.W.fnOf "law" "law" (defArgs sLaw) (defBody sLaw) (defScope sLaw) .none kVLaw dcLaw pmLaw anLaw cdLaw ctLaw, fun s v => .of_eq rfl, fun base _ _ => ?_⟩
  have dNum : Dfn l.prog w K mg base "is_number" 1 ["thing"] spNum fNum _ := ⟨ok_num FNum T, gNum', kNum, bNum⟩
  have dWrd : Dfn l.prog w K mg base "is_word" 1 ["thing"] spWrd fWrd _ := ⟨ok_wrd FWrd T, gWrd', kWrd, bWrd⟩
  have dIsD : Dfn l.prog w K mg base "is_delay" 2 ["gate", "thing"] spIsD fIsD _ := ⟨ok_isD FIsD T dNum, gIsD', kIsD, bIsD⟩
  have dAreD : Dfn l.prog w K mg base "are_delays" 3 ["thing"] spAreD fAreD _ := ⟨ok_areD FAreD T dWrd dIsD, gAreD', kAreD, bAreD⟩
  have dIsW : Dfn l.prog w K mg base "is_wire" 2 ["thing", "gates"] spIsW fIsW _ := ⟨ok_isW FIsW T dNum, gIsW', kIsW, bIsW⟩
  have dAreW : Dfn l.prog w K mg base "are_wires" 3 ["thing", "gates"] spAreW fAreW _ := ⟨ok_areW FAreW T dIsW, gAreW', kAreW, bAreW⟩
  have dOrd : Dfn l.prog w K mg base "order_of" 1 ["reads"] spOrd fOrd _ := ⟨ok_ord FOrd T, gOrd', kOrd, bOrd⟩
  have dRegs : Dfm l.prog w K mg base C "registers" 1 ["self", "moves"] (spRegs C) fRegs _ := ⟨ok_regs FRegs TP, ⟨aRegs, iRegs, kRegs⟩, bRegs⟩
  have dBeat : Dfm l.prog w K mg base C "beat" 2 ["self", "moves"] (spBeat C) fBeat _ := ⟨ok_beat FBeat T TP dRegs dOrd, ⟨aBeat, iBeat, kBeat⟩, bBeat⟩
  have dInit : MkX l.prog w K mg base C "Plan" ["self", "delays", "wires"] 4 (spInit C CB) fInit _ := ⟨⟨mkC, aInit, iInit, kcC⟩, ok_init FInit T TP TCB dAreD dAreW dBeat, bInit, PySem.W.mg_of X G aC⟩
  have dPInit : MkC l.prog w K mg base CP "Path" ["self", "held", "delay", "places"] 1 (spPI CP) fPInit _ := ⟨⟨mkCP, aPInit, iPInit, kcCP⟩, ok_pi FPInit TA, bPInit, PySem.W.mg_of X G aCP⟩
  have dBefore : Dfm l.prog w K mg base CP "comes_before" 1 ["self", "other"] (spCB CP) fBefore _ := ⟨ok_cb FBefore TA, ⟨aBefore, iBefore, kBefore⟩, bBefore⟩
  have dLInit : MkC l.prog w K mg base CL "Limit" ["self", "begin", "to", "path", "keeps"] 1 (spLI CP CL) fLInit _ := ⟨⟨mkCL, aLInit, iLInit, kcCL⟩, ok_li FLInit TA TL, bLInit, PySem.W.mg_of X G aCL⟩
  have dPut : Dfn l.prog w K mg base "put_path" 2 ["found", "ends", "path"] (spPut CP) fPut _ := ⟨ok_put FPut TA dBefore, gPut', kPut, bPut⟩
  have dPaths : Dfn l.prog w K mg base "paths_of" 3 ["plan"] (spPaths C CP) fPaths _ := ⟨ok_paths FPaths T TP TA dPInit dPut, gPaths', kPaths, bPaths⟩
  have dLims : Dfn l.prog w K mg base "limits_of" 3 ["plan", "paths", "beat"] (spLims C CP CL) fLims _ := ⟨ok_lims FLims T TP TA dPInit dLInit, gLims', kLims, bLims⟩
  have dWithin : Dfn l.prog w K mg base "moves_within" 1 ["gates", "limits"] (spWithin CP CL) fWithin _ := ⟨ok_within FWithin T TL, gWithin', kWithin, bWithin⟩
  have dNeed : Dfn l.prog w K mg base "need_plan" 1 ["plan"] (spNeed0 C) fNeed _ := ⟨ok_need0 FNeed T TP IN, gNeed', kNeed, bNeed⟩
  have dStood : Dfn l.prog w K mg base "stood" 1 ["moves"] spStood fStood _ := ⟨ok_stood FStood T, gStood', kStood, bStood⟩
  have dWith : DfX l.prog w K mg base "with_beat" 4 ["plan", "beat"] (spWith C CN) fWith _ := ⟨ok_with FWith T TP TCN dNeed dNum dLims dPaths dWithin dStood, gWith', kWith, bWith⟩
  have dWalkOf : Dfn l.prog w K mg base "walk_of" 1 ["ring"] (spWalkOf CP CL) fWalkOf _ := ⟨ok_walkof FWalkOf T TA TL, gWalkOf', kWalkOf, bWalkOf⟩
  have dFInit : MkC l.prog w K mg base CF "Fastest" ["self", "beat", "moves", "walk", "cuts"] 1 (spFI CF) fFInit _ := ⟨⟨mkCF, aFInit, iFInit, kcCF⟩, ok_fi FFInit T TF, bFInit, PySem.W.mg_of X G aCF⟩
  have dFastest : Dfn l.prog w K mg base "fastest" 4 ["plan"] (spFastest C CF) fFastest _ := ⟨ok_fastest FFastest T TQ TP TA dNeed dLims dPaths dWithin dStood dWalkOf dFInit, gFastest', kFastest, bFastest⟩
  have dDraw : Dfn l.prog w K mg base "_law_draw" 1 ["script", "at", "many"] (spDraw K) fDraw _ := ⟨ok_draw FDraw T, gDraw', kDraw, bDraw⟩
  have dIsWalk : Dfn l.prog w K mg base "is_walk" 2 ["plan", "walk"] (spIsWalk C) fIsWalk _ := ⟨ok_iswalk FIsWalk T TP dNum, gIsWalk', kIsWalk, bIsWalk⟩
  have dApart : Dfn l.prog w K mg base "are_apart" 2 ["cuts", "many"] spApart fApart _ := ⟨ok_apart FApart T dNum, gApart', kApart, bApart⟩
  have dOneG : Dfm l.prog w K mg base CF "is_one_gate" 1 ["self", "plan"] (spOneG C CF) fOneG _ := ⟨ok_oneg FOneG T TP TF, ⟨aOneG, iOneG, kOneG⟩, bOneG⟩
  have dIsLong : Dfm l.prog w K mg base CF "is_long" 1 ["self", "plan", "first", "behind"] (spIsLong C CF) fIsLong _ := ⟨ok_islong FIsLong T TP TF, ⟨aIsLong, iIsLong, kIsLong⟩, bIsLong⟩
  have dShows : Dfm l.prog w K mg base CF "shows" 3 ["self", "plan"] (spShows C CF) fShows _ := ⟨ok_shows FShows T TP TF dNeed dBeat dOneG dIsWalk dApart dIsLong, ⟨aShows, iShows, kShows⟩, bShows⟩
  have dLPlan : Dfn l.prog w K mg base "_law_plan" 2 ["script", "at"] (spLPlan K) fLPlan _ := ⟨ok_lplan FLPlan T dDraw, gLPlan', kLPlan, bLPlan⟩
  have dLRing : Dfn l.prog w K mg base "_law_ring" 1 ["bare"] spLRing fLRing _ := ⟨ok_lring FLRing T, gLRing', kLRing, bLRing⟩
  have dLBeat : Dfn l.prog w K mg base "_law_beat" 2 ["delays", "wires", "moves"] spLBeat fLBeat _ := ⟨ok_lbeat FLBeat T dLRing, gLBeat', kLBeat, bLBeat⟩
  have dRuled : Dfn l.prog w K mg base "_law_ruled" 1 ["plan", "found"] (spRuled C CF) fRuled _ := ⟨ok_ruled FRuled T TP TF, gRuled', kRuled, bRuled⟩
  exact ok_law FLaw T TP TF dDraw dLPlan dLBeat dRuled dInit dFInit dShows dWith dFastest TCN eCN
theorem walk {l : PySem.W.OpenLaw} {q : Program} {loose : List Str} {XP : (Str → Option Value) → Heap → Prop} {YP : World → Heap → Prop} {d : DefRec} {K : Params → PySem.W.Frag} (hn : l.most = some 63) (hdf : d.params.defaults = [])
    (hY : ∀ (w : World) (h : Heap), YP w h → (K w.params).In h)
    (F : ∀ (w : World) (mg : Str → Option Value) (fa : Addr) (h : Heap), (K w.params).In h → h.Ns mainGlobals mg → mg d.name = some (.ref fa) → HasLaw l w (K w.params) mg fa) :
    PySem.W.WalkO q loose XP YP l.row.toRowW d [] (fun f vs => PySem.call f vs) :=
  L2.walk_of (n := 63) (k := 6) (x := "script") (CX := fun _ => CX0) (sp := fun w => spLaw (K w.params)) hn (by decide) hdf ⟨rfl, by decide, by decide⟩ hY F (fun _ _ a ns hl _ hS => ⟨a, ns, rfl, hS, hl, fun _ => rfl⟩) fun _ _ _ _ _ z => z
end PN
open PySem PySem.W PyProof.Rows
set_option maxRecDepth 100000 in
set_option maxHeartbeats 0 in
theorem PySem.Challenge.cw_beatwires_k12_whole_fastest_holds : PySem.Challenge.rw_beatwires_k12_whole_fastest.Holds := by
  w_on; o_law; k_head; (case hw => w_witness2)
  k_fill
  refine PN.walk (l := PySem.Challenge.rw_beatwires_k12_whole_fastest) rfl rfl (fun w h Y => PySem.W.kIn_of Y) ?F
  case F =>
    intro w mg fa h KX G hmg
    refine' PN.all_mk KX G hmg ?aNum ?lNum ?cNum ?kNum ?aWrd ?lWrd ?cWrd ?kWrd ?aOrd ?lOrd ?cOrd ?kOrd ?aAreD ?lAreD ?cAreD ?kAreD ?aIsD ?lIsD ?cIsD ?kIsD ?aAreW ?lAreW ?cAreW ?kAreW ?aIsW ?lIsW ?cIsW ?kIsW ?aPut ?lPut ?cPut ?kPut ?aPaths ?lPaths ?cPaths ?kPaths ?aLims ?lLims ?cLims ?kLims ?aWithin ?lWithin ?cWithin ?kWithin ?aNeed ?lNeed ?cNeed ?kNeed ?aStood ?lStood ?cStood ?kStood ?aWith ?lWith ?cWith ?kWith ?aWalkOf ?lWalkOf ?cWalkOf ?kWalkOf ?aFastest ?lFastest ?cFastest ?kFastest ?aDraw ?lDraw ?cDraw ?kDraw ?aIsWalk ?lIsWalk ?cIsWalk ?kIsWalk ?aApart ?lApart ?cApart ?kApart ?aLPlan ?lLPlan ?cLPlan ?kLPlan ?aLBeat ?lLBeat ?cLBeat ?kLBeat ?aLRing ?lLRing ?cLRing ?kLRing ?aRuled ?lRuled ?cRuled ?kRuled ?aLaw ?lLaw ?cLaw ?kLaw ?aC ?pgC ?hdC ?poC ?saC ?mkC ?kcC ?nC0 ?nC1 ?aCP ?pgCP ?hdCP ?poCP ?saCP ?mkCP ?kcCP ?nCP0 ?nCP1 ?nCP2 ?aCL ?pgCL ?hdCL ?poCL ?saCL ?mkCL ?kcCL ?nCL0 ?nCL1 ?nCL2 ?nCL3 ?nCL4 ?aCF ?pgCF ?hdCF ?poCF ?saCF ?mkCF ?kcCF ?nCF0 ?nCF1 ?nCF2 ?nCF3 ?aInit ?iInit ?lInit ?cInit ?kInit ?aRegs ?iRegs ?lRegs ?cRegs ?kRegs ?aBeat ?iBeat ?lBeat ?cBeat ?kBeat ?aPInit ?iPInit ?lPInit ?cPInit ?kPInit ?aBefore ?iBefore ?lBefore ?cBefore ?kBefore ?aLInit ?iLInit ?lLInit ?cLInit ?kLInit ?aFInit ?iFInit ?lFInit ?cFInit ?kFInit ?aOneG ?iOneG ?lOneG ?cOneG ?kOneG ?aIsLong ?iIsLong ?lIsLong ?cIsLong ?kIsLong ?aShows ?iShows ?lShows ?cShows ?kShows ?iaC ?ihC ?itC ?imC ?icC ?iyC ?iiCint ?aCB ?qCB ?kCB ?bCB ?tCB ?iCB ?sCB ?aCN ?qCN ?kCN ?bCN ?tCN ?iCN ?sCN ?gL ?g8 ?gO ?gW ?gI ?gD ?gR ?z0 ?z1 ?z2 ?z3 ?z4 ?z5 ?z6 ?z7 ?z8 ?z9 ?z10 ?z11 ?z12 ?z13 ?z14 ?z15 ?z16 ?z17 ?z18
    (case aNum => k_is); (case lNum => k_is); (case cNum => k_is); (case kNum => k_is); (case aWrd => k_is); (case lWrd => k_is)
    (case cWrd => k_is); (case kWrd => k_is); (case aOrd => k_is); (case lOrd => k_is); (case cOrd => k_is); (case kOrd => k_is)
    (case aAreD => k_is); (case lAreD => k_is); (case cAreD => k_is); (case kAreD => k_is); (case aIsD => k_is); (case lIsD => k_is)
    (case cIsD => k_is); (case kIsD => k_is); (case aAreW => k_is); (case lAreW => k_is); (case cAreW => k_is); (case kAreW => k_is)
    (case aIsW => k_is); (case lIsW => k_is); (case cIsW => k_is); (case kIsW => k_is); (case aPut => k_is); (case lPut => k_is)
    (case cPut => k_is); (case kPut => k_is); (case aPaths => k_is); (case lPaths => k_is); (case cPaths => k_is); (case kPaths => k_is)
    (case aLims => k_is); (case lLims => k_is); (case cLims => k_is); (case kLims => k_is); (case aWithin => k_is); (case lWithin => k_is)
    (case cWithin => k_is); (case kWithin => k_is); (case aNeed => k_is); (case lNeed => k_is); (case cNeed => k_is); (case kNeed => k_is)
    (case aStood => k_is); (case lStood => k_is); (case cStood => k_is); (case kStood => k_is); (case aWith => k_is); (case lWith => k_is)
    (case cWith => k_is); (case kWith => k_is); (case aWalkOf => k_is); (case lWalkOf => k_is); (case cWalkOf => k_is); (case kWalkOf => k_is)
    (case aFastest => k_is); (case lFastest => k_is); (case cFastest => k_is); (case kFastest => k_is); (case aDraw => k_is); (case lDraw => k_is)
    (case cDraw => k_is); (case kDraw => k_is); (case aIsWalk => k_is); (case lIsWalk => k_is); (case cIsWalk => k_is); (case kIsWalk => k_is)
    (case aApart => k_is); (case lApart => k_is); (case cApart => k_is); (case kApart => k_is); (case aLPlan => k_is); (case lLPlan => k_is)
    (case cLPlan => k_is); (case kLPlan => k_is); (case aLBeat => k_is); (case lLBeat => k_is); (case cLBeat => k_is); (case kLBeat => k_is)
    (case aLRing => k_is); (case lLRing => k_is); (case cLRing => k_is); (case kLRing => k_is); (case aRuled => k_is); (case lRuled => k_is)
    (case cRuled => k_is); (case kRuled => k_is); (case aLaw => k_is); (case lLaw => k_is); (case cLaw => k_is); (case kLaw => k_is)
    (case aC => k_is); (case pgC => k_is); (case hdC => k_is); (case poC => k_is); (case saC => k_is); (case mkC => k_is)
    (case kcC => k_is); (case nC0 => k_is); (case nC1 => k_is); (case aCP => k_is); (case pgCP => k_is); (case hdCP => k_is)
    (case poCP => k_is); (case saCP => k_is); (case mkCP => k_is); (case kcCP => k_is); (case nCP0 => k_is); (case nCP1 => k_is)
    (case nCP2 => k_is); (case aCL => k_is); (case pgCL => k_is); (case hdCL => k_is); (case poCL => k_is); (case saCL => k_is)
    (case mkCL => k_is); (case kcCL => k_is); (case nCL0 => k_is); (case nCL1 => k_is); (case nCL2 => k_is); (case nCL3 => k_is)
    (case nCL4 => k_is); (case aCF => k_is); (case pgCF => k_is); (case hdCF => k_is); (case poCF => k_is); (case saCF => k_is)
    (case mkCF => k_is); (case kcCF => k_is); (case nCF0 => k_is); (case nCF1 => k_is); (case nCF2 => k_is); (case nCF3 => k_is)
    (case aInit => k_is); (case iInit => k_is); (case lInit => k_is); (case cInit => k_is); (case kInit => k_is); (case aRegs => k_is)
    (case iRegs => k_is); (case lRegs => k_is); (case cRegs => k_is); (case kRegs => k_is); (case aBeat => k_is); (case iBeat => k_is)
    (case lBeat => k_is); (case cBeat => k_is); (case kBeat => k_is); (case aPInit => k_is); (case iPInit => k_is); (case lPInit => k_is)
    (case cPInit => k_is); (case kPInit => k_is); (case aBefore => k_is); (case iBefore => k_is); (case lBefore => k_is); (case cBefore => k_is)
    (case kBefore => k_is); (case aLInit => k_is); (case iLInit => k_is); (case lLInit => k_is); (case cLInit => k_is); (case kLInit => k_is)
    (case aFInit => k_is); (case iFInit => k_is); (case lFInit => k_is); (case cFInit => k_is); (case kFInit => k_is); (case aOneG => k_is)
    (case iOneG => k_is); (case lOneG => k_is); (case cOneG => k_is); (case kOneG => k_is); (case aIsLong => k_is); (case iIsLong => k_is)
    (case lIsLong => k_is); (case cIsLong => k_is); (case kIsLong => k_is); (case aShows => k_is); (case iShows => k_is); (case lShows => k_is)
    (case cShows => k_is); (case kShows => k_is); (case iaC => k_is); (case ihC => k_is); (case itC => k_is); (case imC => k_is)
    (case icC => k_is); (case iyC => k_is); (case iiCint => k_is); (case aCB => k_is); (case qCB => k_exc); (case kCB => k_is)
    (case bCB => k_is); (case tCB => k_is); (case iCB => k_is); (case sCB => k_is); (case aCN => k_is); (case qCN => k_exc)
    (case kCN => k_is); (case bCN => k_is); (case tCN => k_is); (case iCN => k_is); (case sCN => k_is); (case gL => k_is)
    (case g8 => k_is); (case gO => k_is); (case gW => k_is); (case gI => k_is); (case gD => k_is); (case gR => k_is)
    (case z0 => k_is); (case z1 => k_is); (case z2 => k_is); (case z3 => k_is); (case z4 => k_is); (case z5 => k_is)
    (case z6 => k_is); (case z7 => k_is); (case z8 => k_is); (case z9 => k_is); (case z10 => k_is); (case z11 => k_is)
    (case z12 => k_is); (case z13 => k_is); (case z14 => k_is); (case z15 => k_is); (case z16 => k_is); (case z17 => k_is)
    (case z18 => k_is)
